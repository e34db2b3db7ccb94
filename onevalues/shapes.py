"""The shapes by which records are told from one another: the names that they have."""

from onevalues.kinds import RECORD
from onevalues.signs import signs_of


# Whether it is a record with these names, which rise, and no others.
def has_names(part, names):
    if part.kind != RECORD or len(part.members) != len(names):
        return False
    return [member.name for member in part.members] == [signs_of(name) for name in names]
