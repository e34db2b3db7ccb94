"""How one value differs from another: the patch that makes the one of the other."""

from onevalues.kinds import LIST, RECORD, TEXT, YES
from onevalues.limits import DEEPEST, LONGEST_VALUE
from onevalues.parts import all_bytes
from onevalues.refusals import NoValue
from onevalues.rows import counted_row, name_row, number_row, vary_row
from onevalues.signs import signs_of

# What is put stands within its step, and that within the patch.
LEVELS_ROUND_PUT = 2


# A part of either value, to which one path leads; None, if it leads nowhere in that value. The path is the
# outer pair's and one step more, whose bytes as a value are told; the uppermost pair is within no other.
class Pair:
    def __init__(self, first, second, outer, step):
        self.first = first
        self.second = second
        self.outer = outer
        self.step = step


# The steps of a patch: how many, and their bytes.
class Steps:
    def __init__(self):
        self.how_many = 0
        self.row = []


# Pairs that are still to be gone through are kept in a list, the next one last.
def differ_row(first_row, first_whole, second_row, second_whole):
    made = Steps()
    left = [Pair(first_whole, second_whole, None, [])]
    while left:
        pair = left.pop()
        if goes_on_within(pair):
            left.extend(list(reversed(inner_pairs(pair))))
        elif pair.second is None:
            add_step(made, pair, "take", [YES])
        elif pair.first is None or all_bytes(first_row, pair.first) != all_bytes(second_row, pair.second):
            add_put(made, pair, second_row)
    row = counted_row(LIST, made.how_many, made.row)
    if len(row) > LONGEST_VALUE:
        raise NoValue()
    return row


# Whether it is two lists or two records.
def goes_on_within(pair):
    if pair.first is None or pair.second is None:
        return False
    return pair.first.kind == pair.second.kind and pair.first.kind in (LIST, RECORD)


def inner_pairs(pair):
    if pair.first.kind == LIST:
        return list_pairs(pair)
    return record_pairs(pair)


# The further ones of the first are taken from the last one on, so that each is still where its number says.
def list_pairs(pair):
    first = pair.first.members
    second = pair.second.members
    both = min(len(first), len(second))
    made = [Pair(first[i], second[i], pair, number_row(i)) for i in range(both)]
    made.extend([Pair(first[i], None, pair, number_row(i)) for i in range(len(first) - 1, both - 1, -1)])
    made.extend([Pair(None, second[i], pair, number_row(i)) for i in range(both, len(second))])
    return made


def record_pairs(pair):
    firsts = dict([(tuple(part.name), part) for part in pair.first.members])
    seconds = dict([(tuple(part.name), part) for part in pair.second.members])
    made = []
    for name in sorted(set(firsts) | set(seconds)):
        made.append(Pair(firsts.get(name), seconds.get(name), pair, counted_row(TEXT, len(name), list(name))))
    return made


def add_put(made, pair, second_row):
    if pair.second.depth + LEVELS_ROUND_PUT > DEEPEST:
        raise NoValue()
    add_step(made, pair, "put", all_bytes(second_row, pair.second))


# The longest patches are refused before all of their bytes are made.
def add_step(made, pair, action, value):
    made.how_many += 1
    made.row.extend(counted_row(RECORD, 2, name_row(signs_of("at"))))
    made.row.extend(path_row(pair))
    made.row.extend(name_row(signs_of(action)))
    made.row.extend(value)
    if len(made.row) > LONGEST_VALUE:
        raise NoValue()


def path_row(pair):
    steps = []
    level = pair
    while level.outer is not None:
        steps.append(level.step)
        level = level.outer
    made = [LIST] + vary_row(len(steps))
    for step in reversed(steps):
        made.extend(step)
    return made
