"""Making values' bytes."""

from onevalues.kinds import MOMENT, NUMBER
from onevalues.limits import MOMENT_LENGTH


def vary_row(amount):
    row = []
    left = amount
    while left >= 128:
        row.append(left % 128 + 128)
        left = left // 128
    row.append(left)
    return row


# The fewest bytes of an amount from 0 on, the lowest first.
def amount_row(amount):
    row = []
    left = amount
    while left > 0:
        row.append(left % 256)
        left = left // 256
    return row


def number_row(number):
    amount = amount_row(abs(number))
    below_0 = 1 if number < 0 else 0
    return [NUMBER] + vary_row(2 * len(amount) + below_0) + amount


# Python's // and % round down, so that what they give of a number below 0 is its two's complement.
def moment_row(number):
    row = [MOMENT]
    left = number
    for turn in range(MOMENT_LENGTH):
        row.append(left % 256)
        left = left // 256
    return row


# What stands before a member's value: its name in a record; nothing in a list, where it has none.
def name_row(name):
    return vary_row(len(name)) + name if name else []


# Of bytes, texts, lists and records: how many (bytes or members) and what stands behind that.
def counted_row(kind, how_many, inner):
    return [kind] + vary_row(how_many) + inner
