"""A second way to judge books of forms and to hold values against them: downwards by calls, over values that are told
in the kinds that the second judge gives back."""

import making
from making import row_of, second_judge, vary

WORDS = {"any": range(9), "yesno": (0, 1), "number": (2,), "bytes": (3,), "text": (4,), "list": (5,), "record": (6,),
         "moment": (7,), "id": (8,)}


class Misfit(Exception):
    pass


class Placed:
    """A value with the place of its bytes, and so its members."""

    def __init__(self, value, place):
        self.value = value
        self.kind = value[0]
        self.place = place
        self.members = {}
        if self.kind in (5, 6):
            at = place + 1 + len(vary(len(value[1])))
            for name, member in enumerate(value[1]) if self.kind == 5 else value[1]:
                if self.kind == 6:
                    at += len(vary(len(name.encode())) + list(name.encode()))
                self.members[name] = Placed(member, at)
                at += len(row_of(member))


def is_bounds(bounds, lowest):
    return bounds.kind == 5 and len(bounds.members) == 2 and all(
        bound.kind == 0 or (bound.kind == 2 and (lowest is None or bound.value[1] >= lowest))
        for bound in bounds.members.values())


def forms_in(form):
    """The forms in a form; None, if it is none by its own shape."""
    if form.kind == 4 and form.value[1] in WORDS:
        return []
    if form.kind != 6:
        return None
    names, told = list(form.members), list(form.members.values())
    if names == ["is"]:
        return []
    if names in (["number"], ["bytes"], ["text"]):
        return [] if is_bounds(told[0], None if names == ["number"] else 0) else None
    if names == ["list", "size"]:
        return [told[0]] if is_bounds(told[1], 0) else None
    if names == ["maybe", "must", "rest"]:
        if told[0].kind != 6 or told[1].kind != 6 or told[0].members.keys() & told[1].members.keys():
            return None
        return [*told[0].members.values(), *told[1].members.values(), *([told[2]] if told[2].kind != 0 else [])]
    if names == ["one"]:
        return list(told[0].members.values()) or None if told[0].kind == 5 else None
    if names == ["use"] and told[0].kind == 4 and 1 <= len(told[0].value[1].encode()) <= 255:
        return []
    return None


def is_of(form, name):
    return form.kind == 6 and list(form.members) == [name]


def faults_in(form, names):
    """The places of all faults, in order."""
    inside = forms_in(form)
    if inside is None or (is_of(form, "use") and form.members["use"].value[1] not in names):
        return [form.place]
    return sum([faults_in(inner, names) for inner in inside], [])


def uses_of(form):
    if is_of(form, "use"):
        return {form.members["use"].value[1]}
    if is_of(form, "one"):
        return set().union(*[uses_of(inner) for inner in form.members["one"].members.values()])
    return set()


def reaches(names):
    """Each name with all those that it comes to."""
    reached = {name: uses_of(form) for name, form in names.items()}
    grown = True
    while grown:
        grown = False
        for name, others in reached.items():
            more = others.union(*[reached[other] for other in others])
            grown = grown or more != others
            reached[name] = more
    return reached


def parts_of(book):
    """The forms under names, and the one at which the book starts."""
    if list(book.members) == ["forms", "start"] and book.members["forms"].kind == 6:
        return book.members["forms"].members, book.members["start"]
    return {}, book


def second_form(row):
    """What form should answer."""
    names, start = parts_of(Placed(second_judge().judge(row), 0))
    faults = sum([faults_in(form, names) for form in [*names.values(), start]], [])
    if not faults:
        reached = reaches(names)
        faults = [form.place for name, form in names.items() if name in reached[name]]
    return [-5, faults[0]] if faults else [0]


def is_within(amount, bounds):
    low, high = bounds.members.values()
    return (low.kind == 0 or amount >= low.value[1]) and (high.kind == 0 or amount <= high.value[1])


def check(value, form, names):
    """Raises Misfit with the place where the value doesn't fit the form."""
    def need(right):
        if not right:
            raise Misfit(value.place)

    if form.kind == 4:
        return need(value.kind in WORDS[form.value[1]])
    told = form.members
    if "is" in told:
        return need(value.value == told["is"].value)
    if "use" in told:
        return check(value, names[told["use"].value[1]], names)
    if "one" in told:
        return need(any(fits_form(value, inner, names) for inner in told["one"].members.values()))
    if "list" in told:
        need(value.kind == 5 and is_within(len(value.members), told["size"]))
        for member in value.members.values():
            check(member, told["list"], names)
        return None
    if "must" in told:
        need(value.kind == 6 and told["must"].members.keys() <= value.members.keys())
        known = {**told["maybe"].members, **told["must"].members}
        for name, member in value.members.items():
            inner = known.get(name, told["rest"])
            if inner.kind == 0:
                raise Misfit(member.place)
            check(member, inner, names)
        return None
    (name, bounds), = told.items()
    need(value.kind == {"number": 2, "bytes": 3, "text": 4}[name])
    return need(is_within(value.value[1] if name == "number" else len(value.value[1]), bounds))


def fits_form(value, form, names):
    try:
        check(value, form, names)
    except Misfit:
        return False
    return True


def second_fits(value_row, book_row):
    """What fits should answer."""
    if second_form(book_row) != [0]:
        return [-5]
    names, start = parts_of(Placed(second_judge().judge(book_row), 0))
    try:
        check(Placed(second_judge().judge(value_row), 0), start, names)
    except Misfit as misfit:
        return [0, *misfit.args]
    return [1]


def record_of(**told):
    return (6, tuple(sorted(told.items())))


def some_bounds(source, amount=0):
    """Bounds that are mostly round the amount."""
    near = [amount, amount, amount - 1, amount + 1, amount + 5]
    bounds = [source.choice([(0,), (0,), (2, source.choice(near))]) for turn in range(2)]
    return (5, tuple((2, max(0, bound[1])) if bound[0] == 2 else bound for bound in bounds))


def some_name(source):
    return source.choice(["a", "b", "c", "d"])


def pick_names(source):
    return sorted(source.sample(making.WORDS[1:], source.randrange(4)), key=str.encode)


def some_form(source, levels):
    """A form that is right, but for uses whose names may not be there."""
    if levels <= 1 or source.random() < 0.3:
        return (4, source.choice(list(WORDS)))
    turn = source.randrange(7)
    if turn == 0:
        return record_of(**{"is": second_judge().judge(making.made(source, levels - 1))})
    if turn == 1:
        return record_of(**{source.choice(["number", "bytes", "text"]): some_bounds(source, source.randrange(4))})
    if turn == 2:
        return record_of(list=some_form(source, levels - 1), size=some_bounds(source, source.randrange(4)))
    if turn == 3:
        names = pick_names(source)
        pairs = [(name, some_form(source, levels - 2)) for name in names]
        return record_of(maybe=(6, tuple(pairs[::2])), must=(6, tuple(pairs[1::2])),
                         rest=source.choice([(0,), some_form(source, levels - 1)]))
    if turn < 6:
        return record_of(one=(5, tuple(some_form(source, levels - 2) for turn in range(source.randrange(1, 4)))))
    return record_of(use=(4, some_name(source)))


def form_of(source, value, loose):
    """A form that the value fits, or, the looser, mostly doesn't."""
    kind = value[0]
    if source.random() < loose:
        return some_form(source, 3)
    turn = source.randrange(6)
    if turn == 0:
        return record_of(**{"is": value})
    if turn == 1:
        others = [some_form(source, 3) for other in range(source.randrange(3))]
        return record_of(one=(5, tuple(source.sample([*others, form_of(source, value, loose)], len(others) + 1))))
    if turn == 2 or kind in (0, 1, 7, 8):
        return (4, source.choice([word for word in WORDS if kind in WORDS[word]]))
    if kind == 2:
        return record_of(number=(5, tuple(source.choice([(0,), (2, value[1] + side)]) for side in (-1, 1))))
    if kind in (3, 4):
        return record_of(**{{3: "bytes", 4: "text"}[kind]: some_bounds(source, len(value[1]))})
    if kind == 5:
        forms = tuple(form_of(source, member, loose) for member in value[1])
        inner = record_of(one=(5, forms)) if forms else some_form(source, 2)
        return record_of(list=inner, size=some_bounds(source, len(value[1])))
    names = {name: form_of(source, member, loose) for name, member in value[1]}
    maybe = {name: form for name, form in names.items() if source.random() < 0.4}
    must = {name: form for name, form in names.items() if name not in maybe and source.random() < 0.8}
    rest = (0,) if len(maybe) + len(must) == len(names) and source.random() < 0.5 else (4, "any")
    return record_of(maybe=(6, tuple(maybe.items())), must=(6, tuple(must.items())), rest=rest)


def some_book(source, start, levels):
    """A book with some forms under names; it may have rings, or lack a name."""
    names = [name for name in "abcd" if source.random() < 0.9]
    return record_of(forms=(6, tuple((name, some_form(source, levels)) for name in names)), start=start)
