import random
import unittest

import making
from making import depth, made, row_of
from onevalues.values import differ, patch
from second import (Nowhere, inner, second_add, second_differ, second_patch, second_put, second_take, some_steps,
                    step_of)

CHANGES = {"put": second_put, "take": second_take, "add": second_add}


def some_value(source, levels):
    return making.second_judge().judge(made(source, levels))


def patch_step(name, steps, x):
    told = {"at": (5, tuple(step_of(step) for step in steps)), name: x}
    return (6, tuple(sorted(told.items())))


def some_patch(source, value, wrong):
    """A patch whose steps mostly can be done; with a share of members that are no step, or nearly one."""
    members = []
    for turn in range(source.randrange(8)):
        name = source.choice(list(CHANGES))
        steps = some_steps(source, value)
        x = (1,) if name == "take" else some_value(source, source.randrange(1, 4))
        try:
            value = CHANGES[name](value, steps, *([] if name == "take" else [x]))
        except Nowhere:
            if source.random() < 0.9:
                continue
        members.append(patch_step(name, steps, x))
        if source.random() < wrong:
            members.append(source.choice([
                some_value(source, 3), patch_step("take", steps, (0,)), patch_step("get", steps, x),
                (6, (("at", (5, ((0,),))), ("put", x))), (6, (("at", (0,)), ("put", x)))]))
    return (5, tuple(members))


def near(source, value):
    """The value with some changes here and there."""
    for turn in range(source.randrange(5)):
        name = source.choice(list(CHANGES))
        try:
            value = CHANGES[name](value, some_steps(source, value),
                                  *([] if name == "take" else [some_value(source, 2)]))
        except Nowhere:
            pass
    return value


class AgainstSecondPatches(unittest.TestCase):
    def test_patch(self):
        source = random.Random(30)
        firsts = {}
        for turn in range(4000):
            value = some_value(source, source.randrange(1, 6))
            steps = some_patch(source, value, 0.1)
            told = patch(row_of(value), row_of(steps))
            self.assertEqual(told, second_patch(value, steps))
            firsts[told[0]] = firsts.get(told[0], 0) + 1
        self.assertEqual(set(firsts), {0, -4, -5})
        self.assertGreater(min(firsts.values()), 200)

    def test_patch_deep_within(self):
        source = random.Random(31)
        firsts = set()
        for turn in range(1000):
            value = some_value(source, source.randrange(1, 6))
            levels = 64 - depth(value) - source.randrange(3)
            steps = [(6, tuple((name, (5, ((2, 0),) * levels + part[1]) if name == "at" else part)
                               for name, part in step[1])) for step in some_patch(source, value, 0)[1]]
            whole = making.second_judge().judge([5, 1] * levels + row_of(value))
            told = patch(row_of(whole), row_of((5, tuple(steps))))
            self.assertEqual(told, second_patch(whole, (5, tuple(steps))))
            firsts.add(told[0])
        self.assertEqual(firsts, {0, -4, -9})

    def test_differ_of_any_two(self):
        source = random.Random(32)
        for turn in range(3000):
            self.differ(some_value(source, 4), some_value(source, 4))

    def test_differ_of_two_that_are_near(self):
        source = random.Random(33)
        for turn in range(4000):
            value = some_value(source, source.randrange(2, 6))
            self.differ(value, near(source, value))
            self.differ(near(source, value), near(source, value))

    def test_differ_deep_within(self):
        source = random.Random(34)
        firsts = set()
        for turn in range(1000):
            value = some_value(source, source.randrange(2, 4))
            other = near(source, value)
            levels = 64 - max(depth(value), depth(other))
            for turn in range(levels):
                name = source.choice(["a", "b"])
                value, other = [(6, ((name, one),)) if turn % 2 else (5, (one,)) for one in (value, other)]
            firsts.add(self.differ(value, other))
            firsts.add(self.differ((0,), other))
        self.assertEqual(firsts, {0, -9})

    def differ(self, a, b):
        told = differ(row_of(a), row_of(b))
        self.assertEqual(told, second_differ(a, b))
        if told[0] == 0:
            self.assertEqual(patch(row_of(a), told[1:]), [0] + row_of(b))
        return told[0]


class SecondWays(unittest.TestCase):
    """That the second way itself does what it's there for."""

    def test_they_come_to_different_things(self):
        self.assertEqual(inner((5, ((0,), (1,)))), {0: (0,), 1: (1,)})
        self.assertEqual(second_patch((0,), (5, ())), [0, 0])
        self.assertEqual(second_patch((0,), (1,)), [-5, 0])
        self.assertEqual(second_differ((5, ((0,), (1,))), (5, ())), [0] + making.row(
            "[{at: [1], take: yes}, {at: [0], take: yes}]"))


if __name__ == "__main__":
    unittest.main()
