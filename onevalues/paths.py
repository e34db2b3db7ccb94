"""Paths, and where they lead within a value: among its parts, or among the nodes of its tree."""

from onevalues.amounts import number_of
from onevalues.kinds import LIST, NUMBER, RECORD, TEXT
from onevalues.parts import inner_bytes
from onevalues.refusals import LeadsNowhere, NoPath

NO_MEMBER = -1


# A path's steps: a whole number for a number, the list of its UTF-8 for a text.
def read_path(row, whole):
    if whole.kind != LIST:
        raise NoPath()
    return [read_step(row, part) for part in whole.members]


def read_step(row, part):
    if part.kind == NUMBER:
        return number_of(row, part)
    if part.kind == TEXT:
        return inner_bytes(row, part)
    raise NoPath()


def is_number(step):
    return isinstance(step, int)


# What the path's beginnings lead to, the whole first, as far as they lead somewhere.
def follow(whole, steps):
    trail = [whole]
    for step in steps:
        holder = trail[-1]
        i = find_member(holder, step)
        if i == NO_MEMBER:
            return trail
        trail.append(holder.members[i])
    return trail


def find_member(holder, step):
    if is_number(step):
        return step if holder.kind == LIST and 0 <= step < len(holder.members) else NO_MEMBER
    if holder.kind == RECORD:
        i = count_before(holder, step)
        if i < len(holder.members) and holder.members[i].name == step:
            return i
    return NO_MEMBER


# How many of a record's names come before this one. Names rise, so that half of those left are passed at a time.
def count_before(holder, name):
    before = 0
    end = len(holder.members)
    while before < end:
        middle = (before + end) // 2
        if holder.members[middle].name < name:
            before = middle + 1
        else:
            end = middle
    return before


def lead(whole, steps):
    trail = follow(whole, steps)
    if len(trail) <= len(steps):
        raise LeadsNowhere(len(trail) - 1)
    return trail[-1]
