"""The signs that values' texts are made of, told by their bytes."""

LINE_FEED = 10
BLANK = 32
QUOTE = 34
ID_SIGN = 35
COMMA = 44
MINUS = 45
NOUGHT = 48
COLON = 58
MOMENT_SIGN = 64
LIST_OPEN = 91
BACKSLASH = 92
LIST_CLOSE = 93
UNDERLINE = 95
SMALL_N = 110
SMALL_U = 117
SMALL_X = 120
SMALL_Y = 121
RECORD_OPEN = 123
RECORD_CLOSE = 125
DELETE = 127
FIGURES = "0123456789abcdef"


def signs_of(words):
    return [ord(sign) for sign in words]


# What a figure in base sixteen says; -1 of a byte that is none.
def figure_of(byte):
    if 48 <= byte <= 57:
        return byte - 48
    if 97 <= byte <= 102:
        return byte - 87
    return -1


def is_ten(byte):
    return 48 <= byte <= 57


def is_small_letter(byte):
    return 97 <= byte <= 122


def is_name_sign(byte):
    return is_small_letter(byte) or is_ten(byte) or byte == UNDERLINE


# Whether a name is told without quotes.
def stands_as_it_is(name):
    return len(name) > 0 and is_small_letter(name[0]) and all([is_name_sign(byte) for byte in name])


# Whether a scalar value within a text is told by its number.
def is_numbered(scalar):
    return (scalar < BLANK and scalar != LINE_FEED) or scalar == DELETE
