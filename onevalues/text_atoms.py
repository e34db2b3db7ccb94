"""Reading the texts of atoms, each giving back the atom's bytes."""

from onevalues.amounts import is_in_range
from onevalues.faults import Fault, OUT_OF_RANGE, WRONG_SIGN
from onevalues.kinds import BYTES, IDENTITY, NO, TEXT, YES
from onevalues.limits import IDENTITY_LENGTH
from onevalues.rows import counted_row, moment_row, number_row
from onevalues.signs import BACKSLASH, ID_SIGN, LINE_FEED, MINUS, MOMENT_SIGN, NOUGHT, QUOTE, RECORD_CLOSE
from onevalues.signs import SMALL_N, SMALL_U, SMALL_X, SMALL_Y, figure_of, is_numbered, is_ten, signs_of
from onevalues.utf8 import pass_scalar

# The greatest number, 256^4096 - 1, has so many figures in tens.
MOST_FIGURES = 9865


def begins_atom(byte):
    return is_ten(byte) or byte in (SMALL_N, SMALL_Y, MINUS, SMALL_X, QUOTE, MOMENT_SIGN, ID_SIGN)


# The byte that is read next must begin an atom.
def read_atom(reader):
    first = reader.see_byte()
    if first == SMALL_N:
        read_word(reader, "no")
        return [NO]
    if first == SMALL_Y:
        read_word(reader, "yes")
        return [YES]
    if first == SMALL_X:
        inner = read_figured(reader)
        return counted_row(BYTES, len(inner), inner)
    if first == QUOTE:
        inner = read_quoted(reader)
        return counted_row(TEXT, len(inner), inner)
    if first == MOMENT_SIGN:
        return read_moment(reader)
    if first == ID_SIGN:
        return read_identity(reader)
    return read_number(reader)


def read_word(reader, words):
    for sign in signs_of(words):
        reader.read_sign(sign)


def read_number(reader):
    start = reader.place
    number = read_tens(reader, start)
    if not is_in_range(number):
        raise Fault(OUT_OF_RANGE, start)
    return number_row(number)


def read_moment(reader):
    start = reader.place
    reader.read_sign(MOMENT_SIGN)
    number = read_tens(reader, start)
    if number < -(2 ** 63) or number >= 2 ** 63:
        raise Fault(OUT_OF_RANGE, start)
    return moment_row(number)


# Start is the place of what the number is told for. What has too many figures is out of any range,
# however many they are: it is not reckoned out.
def read_tens(reader, start):
    below_0 = reader.see_byte() == MINUS
    if below_0:
        reader.read_sign(MINUS)
    first = reader.place
    pass_tens(reader, below_0)
    if reader.place - first > MOST_FIGURES:
        raise Fault(OUT_OF_RANGE, start)
    amount = 0
    for byte in reader.row[first:reader.place]:
        amount = amount * 10 + byte - NOUGHT
    return -amount if below_0 else amount


# A nought stands alone and not behind a minus, since 0 is not below 0.
def pass_tens(reader, below_0):
    first = reader.see_byte()
    if not is_ten(first) or (below_0 and first == NOUGHT):
        raise Fault(WRONG_SIGN, reader.place)
    reader.pass_bytes(1)
    while reader.place < len(reader.row) and is_ten(reader.see_byte()):
        if first == NOUGHT:
            raise Fault(WRONG_SIGN, reader.place)
        reader.pass_bytes(1)


def read_figured(reader):
    read_word(reader, "x\"")
    row = []
    while reader.see_byte() != QUOTE:
        row.append(read_two_figures(reader))
    reader.read_sign(QUOTE)
    return row


def read_identity(reader):
    reader.read_sign(ID_SIGN)
    row = [IDENTITY]
    for turn in range(IDENTITY_LENGTH):
        row.append(read_two_figures(reader))
    return row


def read_two_figures(reader):
    high = read_figure(reader)
    low = read_figure(reader)
    return high * 16 + low


def read_figure(reader):
    figure = figure_of(reader.see_byte())
    if figure < 0:
        raise Fault(WRONG_SIGN, reader.place)
    reader.pass_bytes(1)
    return figure


# Gives back the UTF-8 of what stands between the quotes.
def read_quoted(reader):
    reader.read_sign(QUOTE)
    row = []
    byte = reader.see_byte()
    while byte != QUOTE:
        if byte == BACKSLASH:
            row.append(read_behind_backslash(reader))
        elif byte == LINE_FEED or is_numbered(byte):
            raise Fault(WRONG_SIGN, reader.place)
        else:
            row.extend(read_scalar(reader))
        byte = reader.see_byte()
    reader.read_sign(QUOTE)
    return row


# If the bytes end within the scalar value, that is told when no byte before their end is wrong.
def read_scalar(reader):
    if reader.see_byte() < 128:
        return [reader.read_byte()]
    behind = pass_scalar(reader.row, reader.place, len(reader.row))
    first = reader.pass_bytes(behind - reader.place)
    return reader.row[first:behind]


def read_behind_backslash(reader):
    reader.read_sign(BACKSLASH)
    byte = reader.see_byte()
    if byte == SMALL_U:
        return read_numbered(reader)
    if byte not in (QUOTE, BACKSLASH, SMALL_N):
        raise Fault(WRONG_SIGN, reader.place)
    reader.pass_bytes(1)
    return LINE_FEED if byte == SMALL_N else byte


# Each beginning of a number that is told so is such a number too: the first figure
# that makes another one of it can't stand there, whatever follows.
def read_numbered(reader):
    read_word(reader, "u{")
    scalar = read_figure_onto(reader, 0)
    while reader.see_byte() != RECORD_CLOSE:
        if scalar == 0:
            raise Fault(WRONG_SIGN, reader.place)
        scalar = read_figure_onto(reader, scalar)
    reader.read_sign(RECORD_CLOSE)
    return scalar


def read_figure_onto(reader, scalar):
    place = reader.place
    longer = scalar * 16 + read_figure(reader)
    if not is_numbered(longer):
        raise Fault(WRONG_SIGN, place)
    return longer
