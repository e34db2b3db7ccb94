"""Books of forms, read from the front: the form at which they start, or their first fault."""

from onevalues.forms import USE, Form, read_form
from onevalues.kinds import RECORD
from onevalues.refusals import WrongBook
from onevalues.rings import first_in_ring
from onevalues.shapes import has_names


# Gives back the form at which the book starts. Forms that are still to be read are kept in a list, the next one last:
# each is read before those in it, and these before those behind it.
def read_book(row, whole):
    forms = {}
    start_form = Form(whole)
    if has_names(whole, ("forms", "start")) and whole.members[0].kind == RECORD:
        for part in whole.members[0].members:
            forms[tuple(part.name)] = Form(part)
        start_form = Form(whole.members[1])
    unread = list(reversed(list(forms.values()) + [start_form]))
    uses = []
    while unread:
        form = unread.pop()
        read_form(row, form, forms)
        if form.shape == USE:
            uses.append(form)
        unread.extend(list(reversed(form.inside)))
    ringed = first_in_ring(list(forms.values()))
    if ringed is not None:
        raise WrongBook(ringed.part.place)
    shorten_uses(uses)
    return start_form


# Where uses lead from one to another, each is given the form at their end, so that none has to be passed again.
def shorten_uses(uses):
    for use in uses:
        passed = []
        form = use
        while form.shape == USE:
            passed.append(form)
            form = form.used
        for before in passed:
            before.used = form
