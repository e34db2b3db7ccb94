import random
import unittest

import making
from making import depth, made, path, row_of
from onevalues.values import get, put, take


class Nowhere(Exception):
    pass


def inner(value):
    """A list's members by their numbers, a record's by their names, an atom's none."""
    if value[0] == 5:
        return dict(enumerate(value[1]))
    return dict(value[1]) if value[0] == 6 else {}


def rebuilt(value, members):
    if value[0] == 5:
        return (5, tuple(members[i] for i in sorted(members)))
    return (6, tuple(sorted(members.items(), key=lambda item: item[0].encode())))


def leading(value, steps):
    """How many steps lead, and to what."""
    for many, step in enumerate(steps):
        if step not in inner(value):
            return many, value
        value = inner(value)[step]
    return len(steps), value


def second_put(value, steps, x):
    if not steps:
        return x
    members = inner(value)
    step = steps[0]
    if len(steps) > 1 or step in members:
        if step not in members:
            raise Nowhere()
        members[step] = second_put(members[step], steps[1:], x)
    elif (value[0] == 5 and step == len(members)) or (value[0] == 6 and isinstance(step, str)
                                                      and 1 <= len(step.encode()) <= 255):
        members[step] = x
    else:
        raise Nowhere()
    return rebuilt(value, members)


def second_take(value, steps):
    if not steps or steps[0] not in inner(value):
        raise Nowhere()
    members = inner(value)
    if len(steps) == 1:
        members.pop(steps[0])
        if value[0] == 5:
            members = dict(enumerate(members[i] for i in sorted(members)))
    else:
        members[steps[0]] = second_take(members[steps[0]], steps[1:])
    return rebuilt(value, members)


def some_steps(source, value):
    """A path that leads somewhere, or nearly so."""
    steps = []
    while inner(value) and source.random() < 0.8:
        steps.append(source.choice(sorted(inner(value))))
        value = inner(value)[steps[-1]]
    if source.random() < 0.5:
        steps.append(source.choice([-1, 0, 1, len(inner(value)), len(inner(value)) + 1, 2 ** 40, *making.WORDS,
                                    "x" * 256]))
    if source.random() < 0.1:
        steps.append(source.choice([0, "a"]))
    return steps


class AgainstSecondPaths(unittest.TestCase):
    @classmethod
    def setUpClass(cls):
        cls.second = making.SecondJudge()

    def cases(self, seed, how_many):
        source = random.Random(seed)
        for turn in range(how_many):
            row = made(source, source.randrange(1, 6))
            value = self.second.judge(row)
            steps = some_steps(source, value)
            yield row, value, steps, made(source, source.randrange(1, 4))

    def told(self, change, value, steps, *x):
        try:
            changed = change(value, steps, *x)
        except Nowhere:
            return [-4, leading(value, steps)[0]]
        return [0] + row_of(changed) if depth(changed) <= 64 else [-9]

    def test_get(self):
        for row, value, steps, x in self.cases(20, 4000):
            many, found = leading(value, steps)
            told = get(row, path(*steps))
            if many < len(steps):
                self.assertEqual(told, [-4, many])
            else:
                self.assertEqual(told[0], 0)
                self.assertEqual(self.second.judge(row[told[1]:told[1] + told[2]]), found)

    def test_put(self):
        firsts = set()
        for row, value, steps, x in self.cases(21, 4000):
            told = put(row, path(*steps), x)
            self.assertEqual(told, self.told(second_put, value, steps, self.second.judge(x)))
            firsts.add(told[0])
            if told[0] == 0:
                found = get(told[1:], path(*steps))
                self.assertEqual(told[1:][found[1]:found[1] + found[2]], x)
        self.assertEqual(firsts, {0, -4})

    def test_put_deep_within(self):
        source = random.Random(22)
        firsts = set()
        for row, value, steps, x in self.cases(23, 1000):
            levels = 64 - depth(value) - source.randrange(3)
            told = put([5, 1] * levels + row, path(*[0] * levels, *steps), x)
            whole = self.second.judge([5, 1] * levels + row)
            self.assertEqual(told, self.told(second_put, whole, [0] * levels + steps, self.second.judge(x)))
            firsts.add(told[0])
        self.assertEqual(firsts, {0, -4, -9})

    def test_take(self):
        for row, value, steps, x in self.cases(24, 4000):
            self.assertEqual(take(row, path(*steps)), self.told(second_take, value, steps))

    def test_what_is_put_anew_and_taken_is_as_it_was(self):
        for row, value, steps, x in self.cases(25, 4000):
            many, found = leading(value, steps)
            told = put(row, path(*steps), x)
            if told[0] == 0 and many < len(steps):
                self.assertEqual(take(told[1:], path(*steps)), [0] + row)
            elif told[0] == 0:
                self.assertEqual(put(told[1:], path(*steps), row_of(found)), [0] + row)


if __name__ == "__main__":
    unittest.main()
