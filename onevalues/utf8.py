"""Whether bytes are UTF-8."""

from onevalues.faults import Fault, WRONG_UTF8

LOWEST_FURTHER = 128
HIGHEST_FURTHER = 191


# How many bytes must follow a first byte from 128 on; 0 if no scalar value begins with it:
# C0H and C1H could only say what one byte says, F5H and more only what is above 10FFFFH.
def count_further(first):
    if 194 <= first <= 223:
        return 1
    if 224 <= first <= 239:
        return 2
    if 240 <= first <= 244:
        return 3
    return 0


# A lower second byte would say what fewer bytes say.
def lowest_second(first):
    if first == 224:
        return 160
    if first == 240:
        return 144
    return LOWEST_FURTHER


# A higher second byte would say D800H to DFFFH (behind EDH), or more than 10FFFFH (behind F4H).
def highest_second(first):
    if first == 237:
        return 159
    if first == 244:
        return 143
    return HIGHEST_FURTHER


# The bytes looked at are those from start on, before end. The first with which no UTF-8 goes on
# is the fault's place, so each byte is held against what may follow the bytes before it.
def check_utf8(row, start, end):
    further = 0
    lowest = LOWEST_FURTHER
    highest = HIGHEST_FURTHER
    for place in range(start, end):
        byte = row[place]
        if further > 0:
            if byte < lowest or byte > highest:
                raise Fault(WRONG_UTF8, place)
            further -= 1
            lowest = LOWEST_FURTHER
            highest = HIGHEST_FURTHER
        elif byte >= LOWEST_FURTHER:
            further = count_further(byte)
            if further == 0:
                raise Fault(WRONG_UTF8, place)
            lowest = lowest_second(byte)
            highest = highest_second(byte)
    if further > 0:
        raise Fault(WRONG_UTF8, end)
