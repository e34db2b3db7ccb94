"""Whether bytes are UTF-8."""

from onevalues.faults import Fault, WRONG_UTF8

LOWEST_FURTHER = 128
HIGHEST_FURTHER = 191


# How many bytes a scalar value has whose first byte is 128 or more; 0 if none begins with it:
# C0H and C1H could only say what one byte says, F5H and more only what is above 10FFFFH.
def scalar_length(first):
    if 194 <= first <= 223:
        return 2
    if 224 <= first <= 239:
        return 3
    if 240 <= first <= 244:
        return 4
    return 0


# A lower second byte would say what fewer bytes say.
def lowest_second(first):
    if first == 224:
        return 160
    if first == 240:
        return 144
    return LOWEST_FURTHER


# A higher second byte would say D800H to DFFFH (behind EDH), or more than 10FFFFH (behind F4H).
def highest_second(first):
    if first == 237:
        return 159
    if first == 244:
        return 143
    return HIGHEST_FURTHER


# Gives back the place behind the scalar value that begins at place with a byte from 128 on. No byte
# from end on is looked at: if the scalar value should go on there, the place given back is behind end.
def pass_scalar(row, place, end):
    first = row[place]
    length = scalar_length(first)
    if length == 0:
        raise Fault(WRONG_UTF8, place)
    lowest = lowest_second(first)
    highest = highest_second(first)
    for further in range(place + 1, min(place + length, end)):
        if row[further] < lowest or row[further] > highest:
            raise Fault(WRONG_UTF8, further)
        lowest = LOWEST_FURTHER
        highest = HIGHEST_FURTHER
    return place + length


# How many scalar values there are in what is UTF-8: each has one byte that is no further one.
def count_scalars(row):
    return len([byte for byte in row if byte < LOWEST_FURTHER or byte > HIGHEST_FURTHER])


# The bytes looked at are those from start on, before end.
def check_utf8(row, start, end):
    place = start
    while place < end:
        if row[place] < LOWEST_FURTHER:
            place += 1
        else:
            place = pass_scalar(row, place, end)
    if place > end:
        raise Fault(WRONG_UTF8, end)
