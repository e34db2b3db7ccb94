"""Whether a value fits a form, and where it doesn't."""

from onevalues.amounts import number_of
from onevalues.choices import make_choice
from onevalues.forms import MEMBERS, NAMES, ONE, SAME, USE
from onevalues.kinds import NUMBER, TEXT
from onevalues.parts import all_bytes, inner_bytes
from onevalues.paths import NO_MEMBER, find_member
from onevalues.utf8 import count_scalars

FITS = -1


# A part that is held against a form, member by member, or, of one, against several forms: so many are done.
class Check:
    def __init__(self, part, form, several):
        self.part = part
        self.form = form
        self.several = several
        self.done = 0


# Checks that are begun are kept in a list, each within the one before it. Of a check comes FITS, or the place
# where the value doesn't.
class Fitting:
    def __init__(self, row):
        self.row = row
        self.begun = []
        self.ones_begun = 0
        self.known = {}
        self.choices = {}
        self.measures = {}

    # Gives back what comes of it, if that shows at once; else None, and the check is begun.
    # In the place of a form stands None for a name that may not be there.
    def begin_check(self, part, asked):
        if asked is None:
            return part.place
        form = asked.used if asked.shape == USE else asked
        told = self.known.get((part.place, form.part.place))
        if told is not None:
            return told
        if form.shape == ONE:
            return self.begin_one(part, form)
        if not self.fits_itself(part, form):
            return part.place
        if form.shape not in (MEMBERS, NAMES):
            return FITS
        self.begun.append(Check(part, form, []))
        return None

    def begin_one(self, part, form):
        if form.part.place not in self.choices:
            self.choices[form.part.place] = make_choice(form)
        choice = self.choices[form.part.place]
        if choice.rows and tuple(all_bytes(self.row, part)) in choice.rows:
            return FITS
        self.begun.append(Check(part, form, choice.by_kind[part.kind]))
        self.ones_begun += 1
        return None

    # Of the check begun last: told is what came of the one within it, None if there has been none yet.
    def go_on(self, told):
        check = self.begun[-1]
        is_one = check.form.shape == ONE
        if told is not None:
            # Of one what fits ends it, else what doesn't.
            if (told == FITS) == is_one:
                return self.end_check(told)
            check.done += 1
        if is_one and check.done < len(check.several):
            return self.begin_check(check.part, check.several[check.done])
        if not is_one and check.done < len(check.part.members):
            member = check.part.members[check.done]
            return self.begin_check(member, member_form(check.form, member))
        return self.end_check(check.part.place if is_one else FITS)

    # It is the members of one that bring the same part to the same form again: what came is kept as long as
    # there may be further ones.
    def end_check(self, told):
        check = self.begun.pop()
        if check.form.shape == ONE:
            self.ones_begun -= 1
        if self.ones_begun > 0:
            self.known[(check.part.place, check.form.part.place)] = told
        elif self.known:
            self.known = {}
        return told

    # All but what is within the part.
    def fits_itself(self, part, form):
        if form.shape == SAME:
            return part.end - part.place == len(form.row) and all_bytes(self.row, part) == form.row
        if part.kind not in form.kinds or not self.is_within_bounds(part, form):
            return False
        return all([find_member(part, name) != NO_MEMBER for name in form.must])

    def is_within_bounds(self, part, form):
        if form.low is not None and self.measure(part) < form.low:
            return False
        return form.high is None or self.measure(part) <= form.high

    # What takes long is reckoned out once, however many forms ask for it.
    def measure(self, part):
        if part.kind not in (NUMBER, TEXT):
            return part.size
        if part.place not in self.measures:
            if part.kind == NUMBER:
                self.measures[part.place] = number_of(self.row, part)
            else:
                self.measures[part.place] = count_scalars(inner_bytes(self.row, part))
        return self.measures[part.place]


# What a member is held against: of a list always the same form.
def member_form(form, member):
    if form.shape == MEMBERS:
        return form.inside[0]
    return form.named.get(tuple(member.name), form.rest)


# FITS, or the place in the row.
def hold_against(row, whole, form):
    fitting = Fitting(row)
    told = fitting.begin_check(whole, form)
    while fitting.begun:
        told = fitting.go_on(told)
    return told
