"""Forms, each read by its own shape; the forms in it are found, but not read yet."""

from onevalues.amounts import number_of
from onevalues.kinds import ALL_KINDS, BYTES, KINDS_BY_WORD, LIST, NO, NUMBER, RECORD, TEXT
from onevalues.parts import all_bytes, inner_bytes
from onevalues.refusals import WrongBook
from onevalues.shapes import has_names
from onevalues.signs import signs_of

# What a form asks for: kinds and bounds alone; one value; members each of which fits; a record's names;
# one of several forms; a form that stands under a name.
PLAIN = 0
SAME = 1
MEMBERS = 2
NAMES = 3
ONE = 4
USE = 5


# The part is where it stands in the book. What fits is of one of the kinds and not out of the bounds, of which
# None is none. Then: of SAME the row, of NAMES what stands under each name, the names that must be there and what
# fits others (None: there may be no others), of USE the form that is used; inside are the forms in it, in order.
class Form:
    def __init__(self, part):
        self.part = part
        self.shape = PLAIN
        self.kinds = ALL_KINDS
        self.low = None
        self.high = None
        self.row = []
        self.named = {}
        self.must = []
        self.rest = None
        self.used = None
        self.inside = []


# The book's forms are told by their names, each a tuple of its UTF-8.
def read_form(row, form, book_forms):
    part = form.part
    if part.kind == TEXT:
        read_word(row, form)
    elif has_names(part, ("is",)):
        form.shape = SAME
        form.row = all_bytes(row, part.members[0])
    elif has_names(part, ("number",)):
        read_bounds(row, form, NUMBER, part.members[0])
    elif has_names(part, ("bytes",)):
        read_bounds(row, form, BYTES, part.members[0])
    elif has_names(part, ("text",)):
        read_bounds(row, form, TEXT, part.members[0])
    elif has_names(part, ("list", "size")):
        read_bounds(row, form, LIST, part.members[1])
        form.shape = MEMBERS
        form.inside = [Form(part.members[0])]
    elif has_names(part, ("maybe", "must", "rest")):
        read_names(form)
    elif has_names(part, ("one",)):
        read_one(form)
    elif has_names(part, ("use",)):
        read_use(row, form, book_forms)
    else:
        raise WrongBook(part.place)


def read_word(row, form):
    word = inner_bytes(row, form.part)
    for known in KINDS_BY_WORD:
        if signs_of(known) == word:
            form.kinds = KINDS_BY_WORD[known]
            return
    raise WrongBook(form.part.place)


def read_bounds(row, form, kind, part):
    if part.kind != LIST or len(part.members) != 2:
        raise WrongBook(form.part.place)
    form.kinds = (kind,)
    form.low = read_bound(row, form, part.members[0])
    form.high = read_bound(row, form, part.members[1])


# Of all but numbers it is sizes that are bounded.
def read_bound(row, form, part):
    if part.kind == NO:
        return None
    if part.kind != NUMBER:
        raise WrongBook(form.part.place)
    bound = number_of(row, part)
    if bound < 0 and form.kinds != (NUMBER,):
        raise WrongBook(form.part.place)
    return bound


def read_names(form):
    maybe = form.part.members[0]
    must = form.part.members[1]
    rest = form.part.members[2]
    if maybe.kind != RECORD or must.kind != RECORD:
        raise WrongBook(form.part.place)
    form.shape = NAMES
    form.kinds = (RECORD,)
    for part in maybe.members + must.members:
        inner = Form(part)
        form.named[tuple(part.name)] = inner
        form.inside.append(inner)
    if len(form.named) < len(form.inside):
        raise WrongBook(form.part.place)
    form.must = [part.name for part in must.members]
    if rest.kind != NO:
        form.rest = Form(rest)
        form.inside.append(form.rest)


def read_one(form):
    part = form.part.members[0]
    if part.kind != LIST or not part.members:
        raise WrongBook(form.part.place)
    form.shape = ONE
    form.inside = [Form(inner) for inner in part.members]


# A text that is no name is not there either.
def read_use(row, form, book_forms):
    part = form.part.members[0]
    name = tuple(inner_bytes(row, part))
    if part.kind != TEXT or name not in book_forms:
        raise WrongBook(form.part.place)
    form.shape = USE
    form.used = book_forms[name]
