"""The order of values."""

from onevalues.amounts import moment_of, number_of
from onevalues.kinds import LIST, MOMENT, NUMBER, RECORD
from onevalues.parts import inner_bytes

SAME = 0
BEFORE = 1
BEHIND = 2


# A value of either row, members of which are compared one by one: so many of them have been.
class Pair:
    def __init__(self, first, second):
        self.first = first
        self.second = second
        self.compared = 0


# Pairs that are begun are kept in a list, each within the one before it, as when bytes are read.
def order_values(first_row, first_whole, second_row, second_whole):
    begun = [Pair(first_whole, second_whole)]
    told = order_beginnings(first_row, second_row, begun[0])
    while told == SAME and begun:
        pair = begun[-1]
        if pair.compared < min(len(pair.first.members), len(pair.second.members)):
            inner = Pair(pair.first.members[pair.compared], pair.second.members[pair.compared])
            pair.compared += 1
            told = order_beginnings(first_row, second_row, inner)
            begun.append(inner)
        else:
            told = order_two(len(pair.first.members), len(pair.second.members))
            begun.pop()
    return told


# All but the members: the names (none and none, if these are no records' members), then the kinds,
# then what an atom tells.
def order_beginnings(first_row, second_row, pair):
    told = order_two(pair.first.name, pair.second.name)
    if told == SAME:
        told = order_two(pair.first.kind, pair.second.kind)
    if told == SAME:
        told = order_two(atom_weight(first_row, pair.first), atom_weight(second_row, pair.second))
    return told


# Two numbers by size; two rows of bytes by their bytes, a beginning before what is longer.
def order_two(first, second):
    if first < second:
        return BEFORE
    if first > second:
        return BEHIND
    return SAME


# What atoms of the same kind are ordered by. Lists and records go by their members alone.
def atom_weight(row, part):
    if part.kind == NUMBER:
        return number_of(row, part)
    if part.kind == MOMENT:
        return moment_of(row, part)
    if part.kind in (LIST, RECORD):
        return 0
    return inner_bytes(row, part)
