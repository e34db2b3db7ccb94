"""A second way to change values, to compare with: values are told in the kinds that the second judge gives back."""

import making


class Nowhere(Exception):
    pass


def inner(value):
    """A list's members by their numbers, a record's by their names, an atom's none."""
    if value[0] == 5:
        return dict(enumerate(value[1]))
    return dict(value[1]) if value[0] == 6 else {}


def rebuilt(value, members):
    if value[0] == 5:
        return (5, tuple(members[i] for i in sorted(members)))
    return (6, tuple(sorted(members.items(), key=lambda item: item[0].encode())))


def leading(value, steps):
    """How many steps lead, and to what."""
    for many, step in enumerate(steps):
        if step not in inner(value):
            return many, value
        value = inner(value)[step]
    return len(steps), value


def second_put(value, steps, x):
    if not steps:
        return x
    members = inner(value)
    step = steps[0]
    if len(steps) > 1 or step in members:
        if step not in members:
            raise Nowhere()
        members[step] = second_put(members[step], steps[1:], x)
    elif (value[0] == 5 and step == len(members)) or (value[0] == 6 and isinstance(step, str)
                                                      and 1 <= len(step.encode()) <= 255):
        members[step] = x
    else:
        raise Nowhere()
    return rebuilt(value, members)


def second_take(value, steps):
    if not steps or steps[0] not in inner(value):
        raise Nowhere()
    members = inner(value)
    if len(steps) == 1:
        members.pop(steps[0])
        if value[0] == 5:
            members = dict(enumerate(members[i] for i in sorted(members)))
    else:
        members[steps[0]] = second_take(members[steps[0]], steps[1:])
    return rebuilt(value, members)


def second_add(value, steps, x):
    if not steps:
        raise Nowhere()
    members = inner(value)
    if len(steps) > 1:
        if steps[0] not in members:
            raise Nowhere()
        members[steps[0]] = second_add(members[steps[0]], steps[1:], x)
        return rebuilt(value, members)
    if value[0] != 5 or isinstance(steps[0], str) or not 0 <= steps[0] <= len(value[1]):
        raise Nowhere()
    return (5, value[1][:steps[0]] + (x,) + value[1][steps[0]:])


def told_step(value):
    """What a patch's step does and with what; None of a value that is none."""
    members = inner(value) if value[0] == 6 else {}
    at = members.get("at", (0,))
    if at[0] != 5 or any(step[0] not in (2, 4) for step in at[1]):
        return None
    steps = [step[1] for step in at[1]]
    if set(members) == {"at", "put"}:
        return second_put, steps, members["put"]
    if set(members) == {"at", "add"}:
        return second_add, steps, members["add"]
    if set(members) == {"at", "take"} and members["take"] == (1,):
        return second_take, steps
    return None


def second_patch(value, patch):
    """What patch should answer."""
    steps = [told_step(member) for member in patch[1]] if patch[0] == 5 else [None]
    if None in steps:
        return [-5, steps.index(None)]
    for number, (change, *told) in enumerate(steps):
        try:
            value = change(value, *told)
        except Nowhere:
            return [-4, number]
        if making.depth(value) > 64:
            return [-9, number]
    return [0] + making.row_of(value)


def step_of(step):
    return (4, step) if isinstance(step, str) else (2, step)


def second_steps(a, b, steps=()):
    """The steps of the patch that makes b of a."""
    def one(name, value):
        return [(6, (("at", (5, tuple(step_of(step) for step in steps))), (name, value)))]

    if a is None:
        return one("put", b)
    if b is None:
        return one("take", (1,))
    if a == b:
        return []
    if a[0] != b[0] or a[0] not in (5, 6):
        return one("put", b)
    firsts, seconds = inner(a), inner(b)
    names = sorted({*firsts, *seconds}, key=lambda name: name if a[0] == 5 else name.encode())
    if a[0] == 5 and len(firsts) > len(seconds):
        names[len(seconds):] = reversed(names[len(seconds):])
    return sum([second_steps(firsts.get(name), seconds.get(name), (*steps, name)) for name in names], [])


def second_differ(a, b):
    """What differ should answer, of a patch that isn't too long."""
    patch = (5, tuple(second_steps(a, b)))
    return [0] + making.row_of(patch) if making.depth(patch) <= 64 else [-9]


def some_steps(source, value):
    """A path that leads somewhere, or nearly so."""
    steps = []
    while inner(value) and source.random() < 0.8:
        steps.append(source.choice(sorted(inner(value))))
        value = inner(value)[steps[-1]]
    if source.random() < 0.5:
        steps.append(source.choice([-1, 0, 1, len(inner(value)), len(inner(value)) + 1, 2 ** 40, *making.WORDS,
                                    "x" * 256]))
    if source.random() < 0.1:
        steps.append(source.choice([0, "a"]))
    return steps
