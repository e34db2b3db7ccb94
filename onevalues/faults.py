"""The faults of bytes that are no value's, or no value's text, each with its place."""

ENDS_TOO_SOON = 1
WRONG_KIND = 2
WRONG_VARYING = 3
WRONG_NUMBER = 4
WRONG_UTF8 = 5
WRONG_NAME = 6
TOO_DEEP = 7
BYTES_BEHIND = 8

# Of texts alone: two of the numbers have another meaning there, one is not told of bytes.
WRONG_SIGN = 2
OUT_OF_RANGE = 4
TOO_LONG = 9


class Fault(Exception):
    def __init__(self, kind, place):
        self.kind = kind
        self.place = place
