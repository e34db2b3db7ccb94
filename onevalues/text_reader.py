"""Reading a value's text: gives back the value's bytes, or raises the first fault."""

from onevalues.faults import BYTES_BEHIND, Fault, TOO_DEEP, TOO_LONG, WRONG_NAME, WRONG_SIGN
from onevalues.kinds import LIST, RECORD
from onevalues.limits import DEEPEST, LONGEST_NAME, LONGEST_VALUE
from onevalues.reader import Reader
from onevalues.rows import counted_row, vary_row
from onevalues.signs import BLANK, COLON, COMMA, LIST_CLOSE, LIST_OPEN, QUOTE, RECORD_CLOSE, RECORD_OPEN
from onevalues.signs import is_name_sign, is_small_letter, stands_as_it_is
from onevalues.text_atoms import begins_atom, read_atom, read_quoted


# A list or record that is begun: how many members it has so far, their bytes, the last one's name.
class Holder:
    def __init__(self, kind):
        self.kind = kind
        self.size = 0
        self.row = []
        self.last_name = []


# Lists and records that are begun are kept in a list, each within the one before it.
# Between two turns either a value begins next (whole is None) or whole is the one that just ended.
def read_text(row):
    reader = Reader(row)
    begun = []
    whole = begin_value(reader, begun)
    while begun:
        if whole is None:
            whole = begin_value(reader, begun)
        else:
            whole = end_member(reader, begun, whole)
    if reader.place < len(row):
        raise Fault(BYTES_BEHIND, reader.place)
    if len(whole) > LONGEST_VALUE:
        raise Fault(TOO_LONG, 0)
    return whole


# Gives back the bytes of an atom or of what is empty; None if there are members to come.
def begin_value(reader, begun):
    first = reader.see_byte()
    if not begins_atom(first) and first not in (LIST_OPEN, RECORD_OPEN):
        raise Fault(WRONG_SIGN, reader.place)
    if len(begun) >= DEEPEST:
        raise Fault(TOO_DEEP, reader.place)
    if begins_atom(first):
        return read_atom(reader)
    reader.read_sign(first)
    holder = Holder(LIST if first == LIST_OPEN else RECORD)
    if reader.see_byte() == closing_sign(holder):
        return end_holder(reader, holder)
    begun.append(holder)
    begin_member(reader, holder)
    return None


# Gives back the holder's bytes if the value was its last member, else None.
def end_member(reader, begun, value):
    holder = begun[-1]
    holder.size += 1
    holder.row.extend(value)
    if reader.see_byte() == closing_sign(holder):
        begun.pop()
        return end_holder(reader, holder)
    reader.read_sign(COMMA)
    reader.read_sign(BLANK)
    begin_member(reader, holder)
    return None


def closing_sign(holder):
    return LIST_CLOSE if holder.kind == LIST else RECORD_CLOSE


def end_holder(reader, holder):
    reader.read_sign(closing_sign(holder))
    return counted_row(holder.kind, holder.size, holder.row)


def begin_member(reader, holder):
    if holder.kind == RECORD:
        name = read_name(reader, holder)
        holder.last_name = name
        holder.row.extend(vary_row(len(name)) + name)
        reader.read_sign(COLON)
        reader.read_sign(BLANK)


# That a name is told as a text needlessly, or is none here, is seen when it is whole.
def read_name(reader, holder):
    start = reader.place
    first = reader.see_byte()
    if first == QUOTE:
        name = read_quoted(reader)
        if stands_as_it_is(name):
            raise Fault(WRONG_SIGN, start)
    elif is_small_letter(first):
        name = read_bare_name(reader)
    else:
        raise Fault(WRONG_SIGN, start)
    # The empty name is not behind the last one either, which is empty before the first.
    if len(name) > LONGEST_NAME or name <= holder.last_name:
        raise Fault(WRONG_NAME, start)
    return name


# The byte behind it ends a name that stands as it is: if there is none, the bytes end too soon.
def read_bare_name(reader):
    start = reader.place
    while is_name_sign(reader.see_byte()):
        reader.pass_bytes(1)
    return reader.row[start:reader.place]
