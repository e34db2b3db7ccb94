"""Making a value's text."""

from onevalues.amounts import moment_of, number_of, tens_of
from onevalues.kinds import BYTES, LIST, MOMENT, NO, NUMBER, RECORD, TEXT, YES
from onevalues.parts import inner_bytes
from onevalues.signs import BACKSLASH, FIGURES, ID_SIGN, LINE_FEED, LIST_CLOSE, LIST_OPEN, MOMENT_SIGN, QUOTE
from onevalues.signs import RECORD_CLOSE, RECORD_OPEN, SMALL_N, is_numbered, signs_of, stands_as_it_is


# A part that is begun: so many of its members are told.
class Telling:
    def __init__(self, part):
        self.part = part
        self.told = 0


# Parts that are begun are kept in a list, each within the one before it, as when bytes are read.
def make_text(row, whole):
    made = open_part(row, whole)
    begun = [Telling(whole)]
    while begun:
        telling = begun[-1]
        if telling.told < len(telling.part.members):
            member = telling.part.members[telling.told]
            if telling.told > 0:
                made.extend(signs_of(", "))
            if telling.part.kind == RECORD:
                made.extend(name_text(member.name))
                made.extend(signs_of(": "))
            telling.told += 1
            made.extend(open_part(row, member))
            begun.append(Telling(member))
        else:
            made.extend(close_part(telling.part))
            begun.pop()
    return made


# An atom's text is whole; of a list or record it is what stands before the members.
def open_part(row, part):
    if part.kind == NO:
        return signs_of("no")
    if part.kind == YES:
        return signs_of("yes")
    if part.kind == NUMBER:
        return signs_of(tens_of(number_of(row, part)))
    if part.kind == BYTES:
        return signs_of("x\"") + figures_text(inner_bytes(row, part)) + [QUOTE]
    if part.kind == TEXT:
        return quoted_text(inner_bytes(row, part))
    if part.kind == LIST:
        return [LIST_OPEN]
    if part.kind == RECORD:
        return [RECORD_OPEN]
    if part.kind == MOMENT:
        return [MOMENT_SIGN] + signs_of(tens_of(moment_of(row, part)))
    return [ID_SIGN] + figures_text(inner_bytes(row, part))


def close_part(part):
    if part.kind == LIST:
        return [LIST_CLOSE]
    if part.kind == RECORD:
        return [RECORD_CLOSE]
    return []


def figures_text(row):
    made = []
    for byte in row:
        made.append(ord(FIGURES[byte // 16]))
        made.append(ord(FIGURES[byte % 16]))
    return made


def name_text(name):
    if stands_as_it_is(name):
        return name
    return quoted_text(name)


# Bytes from 128 on are parts of scalar values that stand as they are.
def quoted_text(row):
    made = [QUOTE]
    for byte in row:
        if byte in (QUOTE, BACKSLASH):
            made.append(BACKSLASH)
            made.append(byte)
        elif byte == LINE_FEED:
            made.append(BACKSLASH)
            made.append(SMALL_N)
        elif is_numbered(byte):
            made.extend(numbered_text(byte))
        else:
            made.append(byte)
    made.append(QUOTE)
    return made


def numbered_text(scalar):
    made = signs_of("\\u{")
    if scalar >= 16:
        made.append(ord(FIGURES[scalar // 16]))
    made.append(ord(FIGURES[scalar % 16]))
    made.append(RECORD_CLOSE)
    return made
