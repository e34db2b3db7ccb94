import random
import unittest

import making
from making import depth, made, path, row_of
from onevalues.values import add, get, put, take
from second import Nowhere, leading, second_add, second_put, second_take, some_steps


class AgainstSecondPaths(unittest.TestCase):
    @classmethod
    def setUpClass(cls):
        cls.second = making.second_judge()

    def cases(self, seed, how_many):
        source = random.Random(seed)
        for turn in range(how_many):
            row = made(source, source.randrange(1, 6))
            value = self.second.judge(row)
            steps = some_steps(source, value)
            yield row, value, steps, made(source, source.randrange(1, 4))

    def told(self, change, value, steps, *x):
        try:
            changed = change(value, steps, *x)
        except Nowhere:
            return [-4, leading(value, steps)[0]]
        return [0] + row_of(changed) if depth(changed) <= 64 else [-9]

    def test_get(self):
        for row, value, steps, x in self.cases(20, 4000):
            many, found = leading(value, steps)
            told = get(row, path(*steps))
            if many < len(steps):
                self.assertEqual(told, [-4, many])
            else:
                self.assertEqual(told[0], 0)
                self.assertEqual(self.second.judge(row[told[1]:told[1] + told[2]]), found)

    def test_put(self):
        firsts = set()
        for row, value, steps, x in self.cases(21, 4000):
            told = put(row, path(*steps), x)
            self.assertEqual(told, self.told(second_put, value, steps, self.second.judge(x)))
            firsts.add(told[0])
            if told[0] == 0:
                found = get(told[1:], path(*steps))
                self.assertEqual(told[1:][found[1]:found[1] + found[2]], x)
        self.assertEqual(firsts, {0, -4})

    def test_put_deep_within(self):
        source = random.Random(22)
        firsts = set()
        for row, value, steps, x in self.cases(23, 1000):
            levels = 64 - depth(value) - source.randrange(3)
            told = put([5, 1] * levels + row, path(*[0] * levels, *steps), x)
            whole = self.second.judge([5, 1] * levels + row)
            self.assertEqual(told, self.told(second_put, whole, [0] * levels + steps, self.second.judge(x)))
            firsts.add(told[0])
        self.assertEqual(firsts, {0, -4, -9})

    def test_take(self):
        for row, value, steps, x in self.cases(24, 4000):
            self.assertEqual(take(row, path(*steps)), self.told(second_take, value, steps))

    def test_add(self):
        firsts = set()
        for row, value, steps, x in self.cases(26, 6000):
            told = add(row, path(*steps), x)
            self.assertEqual(told, self.told(second_add, value, steps, self.second.judge(x)))
            firsts.add(told[0])
            if told[0] == 0:
                found = get(told[1:], path(*steps))
                self.assertEqual(told[1:][found[1]:found[1] + found[2]], x)
                self.assertEqual(take(told[1:], path(*steps)), [0] + row)
        self.assertEqual(firsts, {0, -4})

    def test_add_deep_within(self):
        source = random.Random(27)
        firsts = set()
        for row, value, steps, x in self.cases(28, 2000):
            levels = 64 - depth(value) - source.randrange(3)
            told = add([5, 1] * levels + row, path(*[0] * levels, *steps), x)
            whole = self.second.judge([5, 1] * levels + row)
            self.assertEqual(told, self.told(second_add, whole, [0] * levels + steps, self.second.judge(x)))
            firsts.add(told[0])
        self.assertEqual(firsts, {0, -4, -9})

    def test_what_is_put_anew_and_taken_is_as_it_was(self):
        for row, value, steps, x in self.cases(25, 4000):
            many, found = leading(value, steps)
            told = put(row, path(*steps), x)
            if told[0] == 0 and many < len(steps):
                self.assertEqual(take(told[1:], path(*steps)), [0] + row)
            elif told[0] == 0:
                self.assertEqual(put(told[1:], path(*steps), row_of(found)), [0] + row)


if __name__ == "__main__":
    unittest.main()
