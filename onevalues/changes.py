"""Changes of a value's tree: each gives back the top of what came, or refuses, with the tree as far as it got."""

from onevalues.kinds import LIST, RECORD
from onevalues.limits import DEEPEST, LONGEST_NAME, LONGEST_VALUE
from onevalues.paths import count_before, find_member, follow, is_number
from onevalues.refusals import LeadsNowhere, NoValue
from onevalues.rows import vary_row
from onevalues.trees import member_length


# The value x is told by its tree and by how deep it is.
def put_at(top, steps, x, x_depth):
    trail = follow(top, steps)
    leading = len(trail) - 1
    if leading == len(steps):
        check_depth(steps, x_depth)
        return replace_last(trail, steps, x)
    if leading < len(steps) - 1 or not may_have(trail[-1], steps[-1]):
        raise LeadsNowhere(leading)
    check_depth(steps, x_depth)
    return put_new(trail, steps[-1], x)


# Whether the step, which leads to no member of the holder, may lead to a new one.
def may_have(holder, step):
    if is_number(step):
        return holder.kind == LIST and step == len(holder.members)
    return holder.kind == RECORD and 1 <= len(step) <= LONGEST_NAME


def put_new(holders, step, x):
    if is_number(step):
        return insert_member(holders, step, x)
    x.name = step
    return insert_member(holders, count_before(holders[-1], step), x)


def take_at(top, steps):
    trail = follow(top, steps)
    leading = len(trail) - 1
    if not steps or leading < len(steps):
        raise LeadsNowhere(leading)
    return remove_member(trail[:-1], find_member(trail[-2], steps[-1]))


# The last step may lead to a member or behind all: it is the others that must lead.
def add_at(top, steps, x, x_depth):
    trail = follow(top, steps)
    holders = trail[:len(steps)]
    if not steps or len(holders) < len(steps) or not may_add(holders[-1], steps[-1]):
        raise LeadsNowhere(len(trail) - 1)
    check_depth(steps, x_depth)
    return insert_member(holders, steps[-1], x)


def may_add(holder, step):
    return holder.kind == LIST and is_number(step) and 0 <= step <= len(holder.members)


# So many lists and records are round x, one for each step.
def check_depth(steps, x_depth):
    if len(steps) + x_depth > DEEPEST:
        raise NoValue()


# In the place of the last of the trail, to which all the steps lead, stands x.
def replace_last(trail, steps, x):
    if not steps:
        return x
    found = trail[-1]
    holders = trail[:-1]
    x.name = found.name
    holders[-1].members[find_member(holders[-1], steps[-1])] = x
    return lengthen(holders, x.length - found.length)


# Each holder is within the one before it; x becomes member i of the last.
def insert_member(holders, i, x):
    holder = holders[-1]
    before = count_length(holder)
    holder.members.insert(i, x)
    return lengthen(holders, member_length(x) + count_length(holder) - before)


def remove_member(holders, i):
    holder = holders[-1]
    before = count_length(holder)
    gone = holder.members.pop(i)
    return lengthen(holders, count_length(holder) - before - member_length(gone))


# How many bytes tell how many members there are.
def count_length(holder):
    return len(vary_row(len(holder.members)))


# What changes a member's length changes that of all that's round it. Gives back the uppermost.
def lengthen(holders, grown):
    for holder in holders:
        holder.length += grown
    if holders[0].length > LONGEST_VALUE:
        raise NoValue()
    return holders[0]
