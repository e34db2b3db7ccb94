"""Reckoning with numbers."""

from onevalues.amounts import is_in_range, number_of
from onevalues.kinds import NUMBER
from onevalues.limits import LONGEST_NUMBER
from onevalues.refusals import NoNumber, NoResult, OutOfRange

SUM = 0
DIFFERENCE = 1
PRODUCT = 2
QUOTIENT = 3
LEFT_OVER = 4
LESSER = 5
GREATER = 6
POWER = 7
ROOT = 8
DIVISOR = 9


def is_operation(op):
    return SUM <= op <= DIVISOR


def need_number(row, whole):
    if whole.kind != NUMBER:
        raise NoNumber()
    return number_of(row, whole)


def reckon(op, a, b):
    if lacks_result(op, a, b):
        raise NoResult()
    came = reckon_out(op, a, b)
    if not is_in_range(came):
        raise OutOfRange()
    return came


def lacks_result(op, a, b):
    if op in (QUOTIENT, LEFT_OVER):
        return b == 0
    if op == POWER:
        return b < 0
    return op == ROOT and a < 0


# Python's // rounds down, and its % is of b's sign.
def reckon_out(op, a, b):
    if op == SUM:
        return a + b
    if op == DIFFERENCE:
        return a - b
    if op == PRODUCT:
        return a * b
    if op == QUOTIENT:
        return a // b
    if op == LEFT_OVER:
        return a % b
    if op == LESSER:
        return min(a, b)
    if op == GREATER:
        return max(a, b)
    if op == POWER:
        return power_of(a, b)
    if op == ROOT:
        return root_of(a)
    return divisor_of(a, b)


# An amount with n bits is at least 2 to the power of n - 1: powers that are out of range by far
# show by that alone and are not reckoned out.
def power_of(a, b):
    if abs(a) > 1 and (a.bit_length() - 1) * b >= 8 * LONGEST_NUMBER:
        raise OutOfRange()
    # Of 0, 1 and -1 it only tells whether b is 0, odd or even.
    turns = b if abs(a) > 1 else min(b, 2 - b % 2)
    made = 1
    for turn in range(turns):
        made *= a
    return made


# From above each step comes nearer, until the root is reached.
def root_of(a):
    if a == 0:
        return 0
    root = 1
    for turn in range((a.bit_length() + 1) // 2):
        root *= 2
    nearer = (root + a // root) // 2
    while nearer < root:
        root = nearer
        nearer = (root + a // root) // 2
    return root


def divisor_of(a, b):
    greater = abs(a)
    lesser = abs(b)
    while lesser > 0:
        left_over = greater % lesser
        greater = lesser
        lesser = left_over
    return greater
