import unittest

import making
from making import four_letters, long_record, number, pair, path, record, some_bytes, text, vary, within
from onevalues.values import get, put, take

LONGEST = 65536
MANY = LONGEST - 4
NAMES = four_letters(10922)


def long_list(many=MANY):
    return [5] + vary(many) + [1] * many


def long_path(steps):
    return [5] + vary(len(steps)) + [byte for step in steps for byte in step]


class LongLists(making.CallCase):
    def test_get(self):
        for i in (0, 1, 127, 128, MANY // 2, MANY - 2, MANY - 1):
            self.check([0, 4 + i, 1], get, long_list(), path(i))
        self.check([-4, 0], get, long_list(), path(MANY))
        self.check([-4, 1], get, long_list(), path(5, 0))

    def test_put(self):
        new = text("new")
        for i in (0, MANY // 2, MANY - 1):
            row = long_list()
            self.check([0] + row[:4 + i] + new + row[5 + i:], put, row, path(i), new)
        self.check([0, 5] + vary(MANY + 1) + [1] * MANY + new, put, long_list(), path(MANY), new)
        self.check([-4, 0], put, long_list(), path(MANY + 1), new)

    def test_put_what_is_long(self):
        x = some_bytes([7] * MANY)
        self.check([0, 5, 1] + x, put, [5, 0], path(0), x)
        self.check([0] + long_list()[:-1] + x, put, long_list(), path(MANY - 1), x)
        self.check([0] + x, put, long_list(), path(), x)
        self.check([0, 5] + vary(MANY + 1) + [1] * MANY + long_list(), put, long_list(), path(MANY), long_list())

    def test_take(self):
        row = [5] + vary(MANY) + [i % 2 for i in range(MANY)]
        for i in (0, MANY // 2, MANY - 1):
            self.check([0, 5] + vary(MANY - 1) + row[4:4 + i] + row[5 + i:], take, row, path(i))
        self.check([-4, 0], take, row, path(MANY))
        self.check([0, 5] + vary(16383) + [1] * 16383, take, long_list(16384), path(0))


class LongRecords(making.CallCase):
    def test_get(self):
        row = long_record()
        for i in (0, 1, 5461, 10920, 10921):
            self.check([0, 3 + 6 * i + 5, 1], get, row, path(NAMES[i]))
        self.check([-4, 0], get, row, path("zzzz"))
        self.check([-4, 0], get, row, path(0))
        self.check([-4, 1], get, row, path(NAMES[10921], "a"))

    def test_put(self):
        row = long_record()
        for i in (0, 5461, 10921):
            self.check([0] + row[:8 + 6 * i] + number(7) + row[9 + 6 * i:], put, row, path(NAMES[i]), number(7))
        for name, place in (("a", 3), (NAMES[5461] + "a", 3 + 6 * 5462), ("zzzz", len(row))):
            self.check([0, 6] + vary(10923) + row[3:place] + pair(name, number(7)) + row[place:],
                       put, row, path(name), number(7))
        self.check([-4, 0], put, row, path("z" * 256), number(7))

    def test_take(self):
        row = long_record()
        for i in (0, 5461, 10921):
            place = 3 + 6 * i
            self.check([0, 6] + vary(10921) + row[3:place] + row[place + 6:], take, row, path(NAMES[i]))


class LongPaths(making.CallCase):
    def test_very_many_steps(self):
        steps = long_path([number(0)] * 32766)
        self.assertEqual(len(steps), LONGEST)
        for row, leading in ((within(63, [1]), 63), ([5, 0], 0), (within(63, [5, 0]), 63), ([0], 0), (long_list(), 1)):
            self.check([-4, leading], get, row, steps)
            self.check([-4, leading], put, row, steps, [0])
            self.check([-4, leading], take, row, steps)

    def test_a_member_that_is_no_step_behind_very_many(self):
        steps = long_path([number(0)] * 32765 + [[0]])
        for row in (within(63, [1]), [0], long_list()):
            self.check([-5], get, row, steps)
            self.check([-5], put, row, steps, [0])
            self.check([-5], take, row, steps)
        self.check([-5], get, [0], long_list())

    def test_long_steps(self):
        steps = long_path([number(256 ** 4096 - 1)] * 15)
        self.check([-4, 0], get, long_list(), steps)
        self.check([-4, 0], put, long_list(), steps, [0])
        steps = long_path([text("a" * (LONGEST - 10))])
        for row in (record(), record(pair("a", [0])), long_record()):
            self.check([-4, 0], get, row, steps)
            self.check([-4, 0], put, row, steps, [0])
            self.check([-4, 0], take, row, steps)

    def test_to_the_greatest_depth(self):
        row = within(62, [5] + vary(65400) + [0] * 65400)
        self.check([0, 124 + 4 + 65399, 1], get, row, path(*[0] * 62, 65399))
        self.check([0] + row[:-1] + [5, 0], put, row, path(*[0] * 62, 65399), [5, 0])
        self.check([-9], put, row, path(*[0] * 62, 65399), [5, 1, 0])
        self.check([0] + within(62, [5] + vary(65401) + [0] * 65400 + [1]), put, row, path(*[0] * 62, 65400), [1])
        self.check([-9], put, row, path(*[0] * 62, 65400), within(1, [0]))
        self.check([0] + within(62, [5] + vary(65399) + [0] * 65399), take, row, path(*[0] * 62, 7))

    def test_no_values_bytes(self):
        deep = [5, 1] * 32768
        self.check([-6], get, deep, path())
        self.check([-6], get, [0], deep)
        self.check([-6], put, [0], path(), deep)
        self.check([-6], take, deep, path(0))
        self.check([-6], take, long_list()[:-1], path(0))


if __name__ == "__main__":
    unittest.main()
