"""The kinds of values, by the byte with which a value begins."""

NO = 0
YES = 1
NUMBER = 2
BYTES = 3
TEXT = 4
LIST = 5
RECORD = 6
MOMENT = 7
IDENTITY = 8
LAST_KIND = 8
