import unittest

import making
from making import (NO, YES, add_step, four_letters, long_record, number, path, put_step, some_bytes, some_list,
                    take_step, text, vary, within)
from onevalues.values import add, differ, patch

LONGEST = 65536
LONGEST_VALUE = 16777216
MANY = LONGEST - 4
NAMES = four_letters(10922)


def long_list(member, many=MANY):
    return [5] + vary(many) + member * many


def many_steps(steps):
    """A patch of very many steps."""
    return [5] + vary(len(steps)) + [byte for one in steps for byte in one]


class Adds(making.CallCase):
    def test_to_a_long_list(self):
        row = [5] + vary(MANY) + [i % 2 for i in range(MANY)]
        new = text("new")
        for i in (0, 1, MANY // 2, MANY - 1, MANY):
            self.check([0, 5] + vary(MANY + 1) + row[4:4 + i] + new + row[4 + i:], add, row, path(i), new)
        self.check([-4, 0], add, row, path(MANY + 1), new)
        self.check([-4, 1], add, row, path(5, 0), new)

    def test_what_is_long(self):
        x = some_bytes([7] * MANY)
        self.check([0, 5, 1] + x, add, [5, 0], path(0), x)
        self.check([0, 5] + vary(MANY + 1) + x + [1] * MANY, add, long_list(YES), path(0), x)
        self.check([0, 5] + vary(MANY + 1) + long_list(NO) + [1] * MANY, add, long_list(YES), path(0), long_list(NO))

    def test_in_a_long_record(self):
        row = long_record()
        self.check([-4, 1], add, row, path(NAMES[10921]), NO)
        self.check([-4, 0], add, row, path("zzzz"), NO)
        self.check([-4, 0], add, row, path(0), NO)

    def test_to_the_greatest_depth(self):
        row = within(62, [5] + vary(65400) + [0] * 65400)
        for i in (0, 65399, 65400):
            self.check([0] + within(62, [5] + vary(65401) + [0] * i + [5, 0] + [0] * (65400 - i)),
                       add, row, path(*[0] * 62, i), [5, 0])
        self.check([-9], add, row, path(*[0] * 62, 7), [5, 1, 0])
        self.check([-4, 62], add, row, path(*[0] * 62, 65401), [5, 1, 0])

    def test_very_many_steps(self):
        steps = many_steps([number(0)] * 32766)
        for row, leading in ((within(63, [1]), 63), ([5, 0], 0), (within(63, [5, 0]), 63), ([0], 0)):
            self.check([-4, leading], add, row, steps, NO)
        self.check([-5], add, NO, many_steps([number(0)] * 32765 + [NO]), NO)

    def test_no_values_bytes(self):
        deep = [5, 1] * 32768
        self.check([-6], add, deep, path(0), NO)
        self.check([-6], add, [5, 0], deep, NO)
        self.check([-6], add, [5, 0], path(0), deep)


class Differs(making.CallCase):
    def between(self, steps, a, b):
        told = self.answer(differ, a, b)
        self.assertEqual(told, [0] + many_steps(steps))
        self.assertEqual(patch(a, told[1:]), [0] + b)

    def test_lists_that_differ_in_every_member(self):
        self.between([put_step([i], YES) for i in range(MANY)], long_list(NO), long_list(YES))

    def test_a_long_list_and_an_empty_one(self):
        self.between([take_step(i) for i in reversed(range(MANY))], long_list(NO), [5, 0])
        self.between([put_step([i], NO) for i in range(MANY)], [5, 0], long_list(NO))

    def test_lists_that_differ_in_the_last_member(self):
        self.between([put_step([MANY - 1], YES)], long_list(NO), long_list(NO)[:-1] + YES)
        self.between([take_step(MANY - 1)], long_list(NO), long_list(NO, MANY - 1))
        self.between([], long_list(NO), long_list(NO))

    def test_records_that_differ_in_every_member(self):
        a = long_record()
        b = [6] + vary(10922) + [byte for name in NAMES for byte in [4, *name.encode(), 1]]
        self.between([put_step([name], YES) for name in NAMES], a, b)
        self.between([take_step(name) for name in NAMES], a, [6, 0])
        self.between([put_step([name], NO) for name in NAMES], [6, 0], a)

    def test_records_with_every_other_name(self):
        a, b = [[6] + vary(5461) + [byte for name in NAMES[k::2] for byte in [4, *name.encode(), 0]] for k in (0, 1)]
        steps = [put_step([name], NO) if i % 2 else take_step(name) for i, name in enumerate(NAMES)]
        self.between(steps, a, b)

    def test_atoms(self):
        a, b = some_bytes([0] * MANY), some_bytes([0] * (MANY - 1) + [1])
        self.between([put_step([], b)], a, b)
        self.between([put_step([], b)], long_list(NO), b)
        self.between([put_step([], long_list(NO))], b, long_list(NO))

    def test_deep_ones(self):
        inner = [[5] + vary(5000) + member * 5000 for member in (NO, YES)]
        a, b = [within(62, one) for one in inner]
        self.between([put_step([0] * 62 + [i], YES) for i in range(5000)], a, b)
        many = (LONGEST - 3) // 125
        a, b = [[5] + vary(many) + within(62, member) * many for member in (NO, YES)]
        self.between([put_step([i] + [0] * 62, YES) for i in range(many)], a, b)
        self.check([-9], differ, [5, 0], [5] + vary(many) + within(62, NO) * many)
        self.check([-9], differ, NO, a)

    def test_no_values_bytes(self):
        deep = [5, 1] * 32768
        self.check([-6], differ, deep, NO)
        self.check([-6], differ, NO, deep)


class TooLong(making.CallCase):
    def within_names(self, levels, value):
        """The value within so many records of one name that's as long as may be."""
        return ([6, 1] + vary(255) + [97] * 255) * levels + value

    def test_by_many_long_paths(self):
        steps = ["a" * 255] * 50
        # So many steps of a patch, each with its path, are within a value's greatest length, one more is not.
        lengths = [len(put_step([*steps, i], YES)) for i in range(3000)]
        many = 1
        while 3 + sum(lengths[:many + 1]) <= LONGEST_VALUE:
            many += 1
        self.assertGreater(many, 128)
        a, b = [self.within_names(50, [5] + vary(many) + member * many) for member in (NO, YES)]
        told = differ(a, b)
        self.assertEqual((told[0], len(told) - 1), (0, 3 + sum(lengths[:many])))
        self.assertEqual(patch(a, told[1:]), [0] + b)
        for more in (many + 1, many + 2, 2 * many, 50000):
            a, b = [self.within_names(50, [5] + vary(more) + member * more) for member in (NO, YES)]
            self.assertLessEqual(len(a), LONGEST)
            self.check([-9], differ, a, b)

    def test_by_one_byte(self):
        length = LONGEST_VALUE - len(some_list(put_step([], [])))
        b = [3] + vary(length - 5) + [0] * (length - 5)
        self.assertEqual(len(differ(NO, b)), 1 + LONGEST_VALUE)
        self.assertEqual(differ(NO, [3] + vary(length - 4) + [0] * (length - 4)), [-9])


class Patches(making.CallCase):
    def test_very_many_steps_on_a_long_list(self):
        one = add_step([0], NO)
        many = (LONGEST - 4) // len(one)
        self.check([0, 5] + vary(MANY + many) + [0] * many + [1] * MANY,
                   patch, long_list(YES), many_steps([one] * many))
        one = take_step(0)
        many = (LONGEST - 4) // len(one)
        self.check([0] + long_list(YES, MANY - many), patch, long_list(YES), many_steps([one] * many))
        one = put_step([MANY - 1], NO)
        many = (LONGEST - 4) // len(one)
        self.check([0] + long_list(YES)[:-1] + NO, patch, long_list(YES), many_steps([one] * many))

    def test_very_many_steps_on_a_long_record(self):
        row = long_record()
        steps = [take_step(name) for name in NAMES[:3000]]
        self.check([0, 6] + vary(7922) + row[3 + 6 * 3000:], patch, row, many_steps(steps))
        steps = [put_step(["z" + name], YES) for name in reversed(NAMES[:3000])]
        more = [byte for name in NAMES[:3000] for byte in [5, 122, *name.encode(), 1]]
        self.check([0, 6] + vary(13922) + row[3:] + more, patch, row, many_steps(steps))

    def test_very_many_steps_the_last_of_which_is_wrong(self):
        steps = [add_step([0], NO)] * 4000
        take = take_step(4000)
        self.check([-5, 4000], patch, [5, 0], many_steps([*steps, NO]))
        self.check([-4, 4000], patch, [5, 0], many_steps([*steps, take]))
        deep = [put_step([0], within(61, NO)), put_step([0, 0, 0], within(61, NO))]
        self.check([-9, 4001], patch, [5, 0], many_steps([*steps, *deep, take]))
        self.check([-5, 0], patch, [5, 0], long_list(NO))

    def test_the_whole_put_again_and_again(self):
        steps = [put_step([], long_list(number(i), 100)) for i in range(250)]
        self.check([0] + long_list(number(249), 100), patch, long_list(NO), many_steps(steps))

    def test_very_deep_ones(self):
        row = within(63, YES)
        steps = [put_step([0] * 63, NO), put_step([0] * 63, YES)] * 200
        self.check([0] + row, patch, row, many_steps(steps))
        self.check([-9, 400], patch, row, many_steps([*steps, put_step([0] * 63, [5, 1, 0])]))
        self.check([-4, 400], patch, row, many_steps([*steps, put_step([0] * 64, [5, 1, 0])]))

    def test_of_2048_bytes(self):
        row = [5] + vary(2045) + [0] * 2045
        steps = [put_step([i], YES) for i in range(128)]
        self.check([0, 5] + vary(2045) + [1] * 128 + [0] * 1917, patch, row, many_steps(steps))

    def test_no_values_bytes(self):
        deep = [5, 1] * 32768
        self.check([-6], patch, deep, [5, 0])
        self.check([-6], patch, NO, deep)


if __name__ == "__main__":
    unittest.main()
