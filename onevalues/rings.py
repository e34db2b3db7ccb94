"""Rings of uses: forms that come back to themselves by uses and by members of one."""

from onevalues.forms import ONE, USE

NOT_BEGUN = -1
NO_RING = -1


# The first of the forms, those that stand under names, that comes back to itself; None if none does.
def first_in_ring(forms):
    onward = lead_onward(forms)
    rings = join_rings(onward)
    sizes = {}
    for ring in rings:
        sizes[ring] = sizes.get(ring, 0) + 1
    for i, form in enumerate(forms):
        if i in onward[i] or sizes[rings[i]] > 1:
            return form
    return None


# For each form the numbers of those to which it leads.
def lead_onward(forms):
    numbers = {}
    for i, form in enumerate(forms):
        numbers[form.part.place] = i
    return [[numbers[used.part.place] for used in used_forms(form)] for form in forms]


def used_forms(form):
    found = []
    left = [form]
    while left:
        inner = left.pop()
        if inner.shape == USE:
            found.append(inner.used)
        elif inner.shape == ONE:
            left.extend(inner.inside)
    return found


# For each form a number that is the same for two just if they lead to one another. Gone through from the one
# that was ended last, against the way they lead: so each reaches, of those that are left, its own ring alone.
def join_rings(onward):
    backward = turn_round(onward)
    rings = [NO_RING for turn in onward]
    for first in reversed(order_by_end(onward)):
        left = [first] if rings[first] == NO_RING else []
        while left:
            i = left.pop()
            if rings[i] == NO_RING:
                rings[i] = first
                left.extend(backward[i])
    return rings


def turn_round(onward):
    backward = [[] for turn in onward]
    for i, reached in enumerate(onward):
        for j in reached:
            backward[j].append(i)
    return backward


# Each is ended behind all to which it leads that were not begun before it.
def order_by_end(onward):
    passed = [NOT_BEGUN for turn in onward]
    ended = []
    for first in range(len(onward)):
        if passed[first] == NOT_BEGUN:
            end_from(first, onward, passed, ended)
    return ended


# Those that are begun are kept in a list, since they may lead to one another in any number.
def end_from(first, onward, passed, ended):
    passed[first] = 0
    begun = [first]
    while begun:
        i = begun[-1]
        if passed[i] == len(onward[i]):
            ended.append(begun.pop())
        else:
            j = onward[i][passed[i]]
            passed[i] += 1
            if passed[j] == NOT_BEGUN:
                passed[j] = 0
                begun.append(j)
