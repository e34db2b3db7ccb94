"""Changed values' bytes. A list or record tells how many members it has, not how many bytes:
so only what is put or taken changes, and the count of the one that holds it."""

from onevalues.kinds import LIST, RECORD
from onevalues.limits import DEEPEST, LONGEST_NAME, LONGEST_VALUE
from onevalues.parts import name_bytes
from onevalues.paths import find_member, follow, is_number
from onevalues.refusals import LeadsNowhere, NoValue
from onevalues.rows import vary_row


# The value x is told by its bytes and by how deep it is.
def put_at(row, whole, steps, x, x_depth):
    trail = follow(row, whole, steps)
    found = trail[-1]
    leading = len(trail) - 1
    if leading == len(steps):
        changed = row[:found.place] + x + row[found.end:]
    elif leading == len(steps) - 1 and may_have(found, steps[-1]):
        changed = put_new(row, found, steps[-1], x)
    else:
        raise LeadsNowhere(leading)
    # So many lists and records are round x, one for each step.
    if len(steps) + x_depth > DEEPEST or len(changed) > LONGEST_VALUE:
        raise NoValue()
    return changed


# Whether the step, which leads to no member of the holder, may lead to a new one.
def may_have(holder, step):
    if is_number(step):
        return holder.kind == LIST and step == holder.size
    return holder.kind == RECORD and 1 <= len(step) <= LONGEST_NAME


def put_new(row, holder, step, x):
    if is_number(step):
        return insert_member(row, holder, step, x)
    return insert_member(row, holder, count_before(row, holder, step), vary_row(len(step)) + step + x)


# How many of a record's names come before this one.
def count_before(row, holder, name):
    return len([part for part in holder.members if name_bytes(row, part) < name])


def take_at(row, whole, steps):
    trail = follow(row, whole, steps)
    leading = len(trail) - 1
    if not steps or leading < len(steps):
        raise LeadsNowhere(leading)
    holder = trail[-2]
    return without_member(row, holder, find_member(row, holder, steps[-1]))


# What is inserted is a member's bytes, in a record with its name: then as many members stand before it.
def insert_member(row, holder, before, inserted):
    place = member_start(holder, before)
    return with_count(row, holder, holder.size + 1, place) + inserted + row[place:]


def without_member(row, holder, i):
    return with_count(row, holder, holder.size - 1, member_start(holder, i)) + row[holder.members[i].end:]


# Where the bytes of member i begin, in a record with its name; behind all if there are no more than i.
def member_start(holder, i):
    return holder.inside if i == 0 else holder.members[i - 1].end


# The bytes before end, with another count of the holder's members.
def with_count(row, holder, count, end):
    return row[:holder.place + 1] + vary_row(count) + row[holder.inside:end]
