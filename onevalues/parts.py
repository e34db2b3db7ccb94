"""A value's bytes, gone through once from the front: its parts with their places, or the first fault."""

from onevalues.faults import BYTES_BEHIND, Fault, TOO_DEEP, WRONG_KIND, WRONG_NAME, WRONG_NUMBER
from onevalues.kinds import BYTES, IDENTITY, LAST_KIND, LIST, MOMENT, NUMBER, RECORD, TEXT
from onevalues.limits import DEEPEST, IDENTITY_LENGTH, LONGEST_NAME, LONGEST_NUMBER, MOMENT_LENGTH
from onevalues.reader import Reader
from onevalues.utf8 import check_utf8


# A value within a row of bytes: from place on, before end; inside is the place behind its kind and its
# varying number. Its size is how many bytes (of bytes, of a text) or how many members, else 0; its name
# is empty, at 0, if it is no record's member.
class Part:
    def __init__(self, kind, place):
        self.kind = kind
        self.place = place
        self.inside = place + 1
        self.end = place
        self.size = 0
        self.depth = 1
        self.name_place = 0
        self.name = []
        self.members = []


# Parts that are begun and not ended are kept in a list, each within the one before it:
# so the walk goes as deep as the bytes say without calls within one another.
def read_whole(row):
    reader = Reader(row)
    whole = begin_part(reader, 1)
    begun = [whole]
    while begun:
        part = begun[-1]
        if lacks_members(part):
            begun.append(begin_member(reader, part, len(begun) + 1))
        else:
            part.end = reader.place
            begun.pop()
            if begun:
                deepen(begun[-1], part)
    if reader.place < len(row):
        raise Fault(BYTES_BEHIND, reader.place)
    return whole


def lacks_members(part):
    return part.kind in (LIST, RECORD) and len(part.members) < part.size


def deepen(holder, part):
    holder.depth = max(holder.depth, part.depth + 1)


def begin_member(reader, holder, level):
    name_place = 0
    name = []
    if holder.kind == RECORD:
        name_place = read_name(reader, holder)
        name = reader.row[name_place:reader.place]
    part = begin_part(reader, level)
    part.name_place = name_place
    part.name = name
    holder.members.append(part)
    return part


# An atom is read to its end, a list or record up to its first member. The whole's level is 1.
def begin_part(reader, level):
    place = reader.place
    kind = reader.read_byte()
    if kind > LAST_KIND:
        raise Fault(WRONG_KIND, place)
    if level > DEEPEST:
        raise Fault(TOO_DEEP, place)
    part = Part(kind, place)
    if kind == NUMBER:
        pass_number(reader, part)
    elif kind in (BYTES, TEXT):
        pass_row(reader, part)
    elif kind in (LIST, RECORD):
        part.size = reader.read_varying()
        part.inside = reader.place
    elif kind == MOMENT:
        reader.pass_bytes(MOMENT_LENGTH)
    elif kind == IDENTITY:
        reader.pass_bytes(IDENTITY_LENGTH)
    return part


def pass_number(reader, part):
    told = reader.read_varying()
    length = told // 2
    below_0 = told % 2 == 1
    if length > LONGEST_NUMBER or (length == 0 and below_0):
        raise Fault(WRONG_NUMBER, part.place)
    part.inside = reader.pass_bytes(length)
    if length > 0 and reader.row[reader.place - 1] == 0:
        raise Fault(WRONG_NUMBER, part.place)


def pass_row(reader, part):
    part.size = reader.read_varying()
    part.inside = reader.pass_bytes(part.size)
    if part.kind == TEXT:
        check_utf8(reader.row, part.inside, reader.place)


# Gives back the name's place. What is not UTF-8 is no text and so no name yet:
# that is looked at before whether the name stands behind the one before it.
def read_name(reader, holder):
    told_at = reader.place
    length = reader.read_varying()
    if length == 0 or length > LONGEST_NAME:
        raise Fault(WRONG_NAME, told_at)
    first = reader.pass_bytes(length)
    check_utf8(reader.row, first, reader.place)
    if holder.members and reader.row[first:reader.place] <= holder.members[-1].name:
        raise Fault(WRONG_NAME, told_at)
    return first


def all_bytes(row, part):
    return row[part.place:part.end]


def inner_bytes(row, part):
    return row[part.inside:part.end]
