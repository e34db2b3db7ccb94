"""The numbers that the bytes of numbers and moments tell, and their figures in tens."""

from onevalues.limits import LONGEST_NUMBER
from onevalues.parts import inner_bytes

PIECE_FIGURES = 18
PIECE = 1000000000000000000


# The amount's bytes come with the lowest first.
def amount_of(row):
    amount = 0
    for byte in reversed(row):
        amount = amount * 256 + byte
    return amount


def number_of(row, part):
    amount = amount_of(inner_bytes(row, part))
    told = row[part.place + 1]
    return -amount if told % 2 == 1 else amount


def is_in_range(number):
    return number.bit_length() <= 8 * LONGEST_NUMBER


def moment_of(row, part):
    amount = amount_of(inner_bytes(row, part))
    return amount if amount < 2 ** 63 else amount - 2 ** 64


# Python refuses to make a text of a number of more than 4,300 figures, so it is made piece by piece.
def tens_of(number):
    pieces = []
    left = abs(number)
    while left >= PIECE:
        pieces.append(str(left % PIECE).zfill(PIECE_FIGURES))
        left = left // PIECE
    pieces.append(str(left))
    if number < 0:
        pieces.append("-")
    return "".join(reversed(pieces))
