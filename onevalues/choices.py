"""The members of one, made ready to be asked for again and again."""

from onevalues.forms import ONE, SAME, USE
from onevalues.kinds import ALL_KINDS


# The rows of those that one value alone fits; and for each kind the others, which a value of that kind may fit.
class Choice:
    def __init__(self):
        self.rows = {}
        self.by_kind = [[] for kind in ALL_KINDS]


# What fits one of a member of one fits one, and what fits the form of a name fits its use: so both give way to
# the forms behind them, each of which is taken once, however often it is come to.
def make_choice(form):
    choice = Choice()
    seen = {}
    left = [form]
    while left:
        inner = left.pop()
        if inner.part.place not in seen:
            seen[inner.part.place] = True
            if inner.shape == ONE:
                left.extend(inner.inside)
            elif inner.shape == USE:
                left.append(inner.used)
            else:
                add_form(choice, inner)
    return choice


def add_form(choice, form):
    if form.shape == SAME:
        choice.rows[tuple(form.row)] = True
    else:
        for kind in form.kinds:
            choice.by_kind[kind].append(form)
