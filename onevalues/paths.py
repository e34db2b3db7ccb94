"""Paths, and where they lead within a value."""

from onevalues.amounts import number_of
from onevalues.kinds import LIST, NUMBER, RECORD, TEXT
from onevalues.parts import inner_bytes, name_bytes
from onevalues.refusals import LeadsNowhere, NoPath

NO_MEMBER = -1


# A path's steps: a whole number for a number, the list of its UTF-8 for a text.
def read_path(row, whole):
    if whole.kind != LIST:
        raise NoPath()
    return [read_step(row, part) for part in whole.members]


def read_step(row, part):
    if part.kind == NUMBER:
        return number_of(row, part)
    if part.kind == TEXT:
        return inner_bytes(row, part)
    raise NoPath()


def is_number(step):
    return isinstance(step, int)


# The parts to which the path's beginnings lead, the whole first, as far as they lead somewhere.
def follow(row, whole, steps):
    trail = [whole]
    for step in steps:
        holder = trail[-1]
        i = find_member(row, holder, step)
        if i == NO_MEMBER:
            return trail
        trail.append(holder.members[i])
    return trail


def find_member(row, holder, step):
    if is_number(step):
        return step if holder.kind == LIST and 0 <= step < holder.size else NO_MEMBER
    if holder.kind == RECORD:
        for i, part in enumerate(holder.members):
            if name_bytes(row, part) == step:
                return i
    return NO_MEMBER


def lead(row, whole, steps):
    trail = follow(row, whole, steps)
    if len(trail) <= len(steps):
        raise LeadsNowhere(len(trail) - 1)
    return trail[-1]
