"""The kinds of values, by the byte with which a value begins."""

NO = 0
YES = 1
NUMBER = 2
BYTES = 3
TEXT = 4
LIST = 5
RECORD = 6
MOMENT = 7
IDENTITY = 8
LAST_KIND = 8
ALL_KINDS = (0, 1, 2, 3, 4, 5, 6, 7, 8)

# What each word that is a form stands for.
KINDS_BY_WORD = {
    "any": (0, 1, 2, 3, 4, 5, 6, 7, 8),
    "yesno": (0, 1),
    "number": (2,),
    "bytes": (3,),
    "text": (4,),
    "list": (5,),
    "record": (6,),
    "moment": (7,),
    "id": (8,),
}
