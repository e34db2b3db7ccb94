"""How deep and how long values, numbers and names may be."""

DEEPEST = 64
LONGEST_VALUE = 16777216
LONGEST_NUMBER = 4096
LONGEST_NAME = 255
MOMENT_LENGTH = 8
IDENTITY_LENGTH = 32
