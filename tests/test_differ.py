import unittest

import making
from making import (ATOMS, NO, NO_VALUES, YES, number, pair, put_step, record, row, some_bytes, some_list, take_step,
                    text, within)
from onevalues.values import differ, judge, patch


class DifferCase(making.CallCase):
    def told(self, steps, a, b):
        """That b differs from a by these steps, told as texts, and that a patched by them is b."""
        self.between(row(steps), row(a), row(b))

    def between(self, steps, a, b):
        self.check([0] + steps, differ, a, b)
        self.assertEqual(judge(steps), [0])
        self.assertEqual(patch(a, steps), [0] + b)


class TheSame(DifferCase):
    def test_a_patch_of_no_step(self):
        for value in [*ATOMS, some_list(), record(), some_list(NO, some_list(YES)), record(pair("a", some_list(NO))),
                      within(63, NO), [6, 1, 1, 97] * 63 + NO]:
            self.between([5, 0], value, value)


class Atoms(DifferCase):
    def test_of_different_kinds(self):
        others = [*ATOMS, some_list(), record(), some_list(NO), record(pair("a", NO))]
        for a in others:
            for b in others:
                if a[0] != b[0]:
                    self.between(some_list(put_step([], b)), a, b)

    def test_of_the_same_kind(self):
        self.told("[{at: [], put: 2}]", "1", "2")
        self.told("[{at: [], put: -1}]", "1", "-1")
        self.told('[{at: [], put: x"01"}]', 'x""', 'x"01"')
        self.told('[{at: [], put: "ab"}]', '"a"', '"ab"')
        self.told('[{at: [], put: ""}]', '"a"', '""')
        self.told("[{at: [], put: @-1}]", "@1", "@-1")
        self.told("[{at: [], put: no}]", "yes", "no")
        self.told("[{at: [], put: #" + "1" * 64 + "}]", "#" + "0" * 64, "#" + "1" * 64)


class Lists(DifferCase):
    def test_of_the_same_length(self):
        self.told("[{at: [1], put: 5}]", "[1, 2, 3]", "[1, 5, 3]")
        self.told("[{at: [0], put: 5}, {at: [2], put: 7}]", "[1, 2, 3]", "[5, 2, 7]")
        self.told("[{at: [0], put: 4}, {at: [1], put: 5}, {at: [2], put: 6}]", "[1, 2, 3]", "[4, 5, 6]")

    def test_a_is_longer(self):
        self.told("[{at: [2], take: yes}]", "[1, 2, 3]", "[1, 2]")
        self.told("[{at: [2], take: yes}, {at: [1], take: yes}, {at: [0], take: yes}]", "[1, 2, 3]", "[]")
        self.told("[{at: [0], put: 2}, {at: [1], put: 3}, {at: [2], take: yes}]", "[1, 2, 3]", "[2, 3]")
        self.told("[{at: [0], take: yes}]", "[[1, 2]]", "[]")

    def test_b_is_longer(self):
        self.told("[{at: [2], put: 3}]", "[1, 2]", "[1, 2, 3]")
        self.told("[{at: [0], put: 1}, {at: [1], put: 2}, {at: [2], put: 3}]", "[]", "[1, 2, 3]")
        self.told("[{at: [0], put: 0}, {at: [1], put: 1}, {at: [2], put: 2}, {at: [3], put: [3]}]",
                  "[1, 2]", "[0, 1, 2, [3]]")

    def test_deep_within(self):
        self.told("[{at: [1, 0, 1], put: 5}]", "[0, [[1, 2], 3], 4]", "[0, [[1, 5], 3], 4]")
        self.told("[{at: [0, 1], take: yes}, {at: [1, 0], put: 2}]", "[[1, 2], []]", "[[1], [2]]")
        self.told("[{at: [0, 0], put: 5}, {at: [0, 1], take: yes}, {at: [1], put: 6}, {at: [2], take: yes}]",
                  "[[1, 2], 3, 4]", "[[5], 6]")

    def test_a_list_for_something_else(self):
        self.told("[{at: [0], put: [1]}]", "[1]", "[[1]]")
        self.told("[{at: [0], put: {}}]", "[[]]", "[{}]")
        self.told("[{at: [0], put: []}]", "[{}]", "[[]]")
        self.told("[{at: [], put: [1, 2]}]", "{a: 1}", "[1, 2]")

    def test_numbers_of_members_that_take_more_bytes(self):
        for many in (127, 128, 129, 255, 256, 257):
            steps = [put_step([i], YES) for i in range(many)]
            self.between(some_list(*steps), some_list(*[NO] * many), some_list(*[YES] * many))
            self.between(some_list(*steps), some_list(), some_list(*[YES] * many))
            steps = [take_step(i) for i in reversed(range(many))]
            self.between(some_list(*steps), some_list(*[NO] * many), some_list())


class Records(DifferCase):
    def test_names_in_one_alone(self):
        self.told('[{at: ["a"], take: yes}]', "{a: 1, b: 2}", "{b: 2}")
        self.told('[{at: ["b"], take: yes}]', "{a: 1, b: 2, c: 3}", "{a: 1, c: 3}")
        self.told('[{at: ["c"], take: yes}]', "{a: 1, c: 3}", "{a: 1}")
        self.told('[{at: ["a"], put: 1}]', "{b: 2}", "{a: 1, b: 2}")
        self.told('[{at: ["b"], put: 2}]', "{a: 1, c: 3}", "{a: 1, b: 2, c: 3}")
        self.told('[{at: ["c"], put: 3}]', "{a: 1}", "{a: 1, c: 3}")
        self.told('[{at: ["a"], take: yes}, {at: ["b"], take: yes}]', "{a: 1, b: 2}", "{}")
        self.told('[{at: ["a"], put: 1}, {at: ["b"], put: {}}]', "{}", "{a: 1, b: {}}")

    def test_names_in_both(self):
        self.told('[{at: ["b"], put: 5}]', "{a: 1, b: 2, c: 3}", "{a: 1, b: 5, c: 3}")
        self.told('[{at: ["a"], put: 5}, {at: ["c"], put: no}]', "{a: 1, b: 2, c: 3}", "{a: 5, b: 2, c: no}")

    def test_name_by_name_rising(self):
        self.told('[{at: ["a"], take: yes}, {at: ["b"], put: 2}, {at: ["c"], put: 7}, {at: ["d"], put: 4}, '
                  '{at: ["e"], take: yes}]', "{a: 1, c: 3, e: 5}", "{b: 2, c: 7, d: 4}")
        self.told('[{at: ["a"], put: 1}, {at: ["b"], take: yes}, {at: ["c"], put: 7}, {at: ["d"], take: yes}, '
                  '{at: ["e"], put: 5}]', "{b: 2, c: 3, d: 4}", "{a: 1, c: 7, e: 5}")
        self.told('[{at: ["A"], put: 1}, {at: ["a"], take: yes}, {at: ["aa"], put: 1}, {at: ["ab"], take: yes}, '
                  '{at: ["b"], put: 1}, {at: ["\u00e4"], take: yes}, {at: ["\u20ac"], put: 1}]',
                  '{a: 1, ab: 1, "\u00e4": 1}', '{"A": 1, aa: 1, b: 1, "\u20ac": 1}')

    def test_long_names(self):
        for length in (127, 128, 255):
            a, b = "a" * length, "b" * length
            self.told('[{at: ["' + a + '"], take: yes}, {at: ["' + b + '"], put: 1}]',
                      "{" + a + ": 1}", "{" + b + ": 1}")


class Together(DifferCase):
    def test_paths_from_the_uppermost_on(self):
        self.told('[{at: ["a", 0, "b", 1], put: 5}]', "{a: [{b: [1, 2]}]}", "{a: [{b: [1, 5]}]}")
        self.told('[{at: [0, "a", "b"], take: yes}, {at: [0, "a", "c"], put: 1}, {at: [1], put: yes}]',
                  "[{a: {b: 1}}, no]", "[{a: {c: 1}}, yes]")
        self.told('[{at: ["a", 0, "x"], put: 1}, {at: ["a", 1], take: yes}, {at: ["b"], put: []}]',
                  "{a: [{}, 2], b: {}}", "{a: [{x: 1}], b: []}")

    def test_what_is_put_is_whole(self):
        self.told('[{at: ["a"], put: {b: [1, {c: "d"}]}}]', "{}", '{a: {b: [1, {c: "d"}]}}')
        self.told('[{at: [0], put: [{a: 1}]}]', "[{a: 1}]", "[[{a: 1}]]")

    def test_values_that_look_like_steps(self):
        self.told('[{at: ["at", 0], put: 1}, {at: ["put"], take: yes}, {at: ["take"], put: yes}]',
                  "{at: [0], put: no}", "{at: [1], take: yes}")


class NoValue(DifferCase):
    def test_too_deep(self):
        self.between(some_list(put_step([], within(61, YES))), NO, within(61, YES))
        for deep in (within(62, YES), within(62, some_list()), within(63, YES), [6, 1, 1, 97] * 62 + NO):
            self.check([-9], differ, NO, deep)
            self.check([-9], differ, record() if deep[0] == 5 else some_list(), deep)
        self.check([-9], differ, some_list(), within(63, YES))
        self.between(some_list(put_step([0], within(61, YES))), some_list(),
                     within(62, YES))

    def test_deep_values_that_differ_deep_within(self):
        for levels in (1, 2, 30, 62, 63):
            a, b = within(levels, NO), within(levels, YES)
            self.between(some_list(put_step([0] * levels, YES)), a, b)
            a, b = [6, 1, 1, 97] * levels + NO, [6, 1, 1, 97] * levels + YES
            self.between(some_list(put_step(["a"] * levels, YES)), a, b)

    def test_too_deep_in_one_of_several(self):
        self.check([-9], differ, some_list(NO, NO, NO), some_list(YES, within(62, NO), YES))
        self.check([-9], differ, record(pair("a", NO)), record(pair("a", YES), pair("b", within(62, NO))))
        self.assertEqual(differ(some_list(within(62, NO)), some_list(within(62, NO), YES))[0], 0)


class Refused(DifferCase):
    def test_no_values_bytes(self):
        for wrong in NO_VALUES:
            for value in (NO, some_list(NO), within(63, NO)):
                self.check([-6], differ, wrong, value)
                self.check([-6], differ, value, wrong)
            self.check([-6], differ, wrong, wrong)


class ManyPairs(DifferCase):
    def test_each_of_some_with_each(self):
        values = [*ATOMS, some_list(), some_list(NO), some_list(YES), some_list(NO, NO), some_list(some_list()),
                  some_list(some_list(NO), record()), record(), record(pair("a", NO)), record(pair("b", NO)),
                  record(pair("a", NO), pair("b", some_list(NO, text("a")))), some_list(record(pair("a", number(7)))),
                  record(pair("b", some_list(text("a")))), some_bytes([]), text(""), within(40, NO), within(41, NO)]
        for a in values:
            for b in values:
                told = self.answer(differ, a, b)
                self.assertEqual(told[0], 0)
                self.check([0] + b, patch, a, told[1:])
                self.assertEqual(told[1:] == [5, 0], a == b)


if __name__ == "__main__":
    unittest.main()
