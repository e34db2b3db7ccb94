import unittest

import making
from making import ATOMS, NO, NO_PATHS, NO_VALUES, YES, number, pair, path, record, some_list, text, vary, within
from onevalues.values import get, judge, take


class TakeCase(making.CallCase):
    def came(self, expected, row, *steps):
        self.check([0] + expected, take, row, path(*steps))
        self.assertEqual(judge(expected), [0])

    def cant(self, leading, row, *steps):
        self.check([-4, leading], take, row, path(*steps))


class Taken(TakeCase):
    def test_members_of_a_list(self):
        members = [*ATOMS, some_list(NO, YES), record(pair("a", NO))]
        for i in range(len(members)):
            self.came(some_list(*members[:i], *members[i + 1:]), some_list(*members), i)

    def test_members_of_a_record(self):
        names = ["A", "a", "aa", "a" * 200, "b", "\u00e4", "\u20ac", "\U0001f600"]
        pairs = [pair(name, value) for name, value in zip(names, ATOMS)]
        for i, name in enumerate(names):
            expected = record(*pairs[:i], *pairs[i + 1:])
            self.came(expected, record(*pairs), name)
            self.check([-4, 0], get, expected, path(name))

    def test_the_only_one(self):
        for member in [*ATOMS, some_list(NO), within(62, NO)]:
            self.came(some_list(), some_list(member), 0)
            self.came(record(), record(pair("a", member)), "a")

    def test_deep_within(self):
        def around(*members):
            return record(pair("a", some_list(number(1), record(pair("b", some_list(*members))), YES)), pair("c", NO))
        self.came(around(YES, text("c")), around(number(5), YES, text("c")), "a", 1, "b", 0)
        self.came(around(number(5), text("c")), around(number(5), YES, text("c")), "a", 1, "b", 1)
        self.came(around(number(5), YES), around(number(5), YES, text("c")), "a", 1, "b", 2)
        self.came(around(), around(number(5)), "a", 1, "b", 0)
        self.came(record(pair("a", some_list(number(1), record(), YES)), pair("c", NO)), around(NO), "a", 1, "b")
        self.came(record(pair("a", some_list(number(1), YES)), pair("c", NO)), around(NO), "a", 1)

    def test_one_of_several_that_are_the_same(self):
        self.came(some_list(NO, some_list(NO), NO), some_list(NO, some_list(NO, NO), NO), 1, 1)
        self.came(some_list(NO, NO), some_list(NO, NO, NO), 1)

    def test_the_count_from_128_to_127(self):
        for many in (127, 128, 129, 130, 256, 257):
            for i in (0, 60, many - 1):
                members = [number(k) for k in range(many)]
                self.came(some_list(*members[:i], *members[i + 1:]), some_list(*members), i)
                pairs = [pair("n" + str(1000 + k), number(k)) for k in range(many)]
                self.came(some_list(NO, record(*pairs[:i], *pairs[i + 1:]), YES), some_list(NO, record(*pairs), YES),
                          1, "n" + str(1000 + i))
        self.assertEqual(take(some_list(*[NO] * 128), path(5))[:4], [0, 5, 127, 0])

    def test_the_count_from_16384_to_16383(self):
        self.came([5] + vary(16383) + [0] * 16383, [5] + vary(16384) + [0] * 16383 + [1], 16383)

    def test_as_deep_as_may_be(self):
        self.came(within(62, some_list()), within(63, YES), *[0] * 63)
        self.came(some_list(), within(63, YES), 0)
        self.came([6, 1, 1, 97] * 62 + record(), [6, 1, 1, 97] * 63 + NO, *["a"] * 63)


class CantBeDone(TakeCase):
    def test_the_empty_path(self):
        for row in [*ATOMS, some_list(), record(), some_list(NO), record(pair("a", NO)), within(63, NO)]:
            self.cant(0, row)

    def test_what_leads_nowhere(self):
        row = record(pair("a", some_list(NO, record(pair("b", some_list(NO, YES))))))
        steps = ["a", 1, "b", 1]
        for leading in range(5):
            for wrong in (-1, 7, 2, 2 ** 70, "nowhere", ""):
                self.cant(leading, row, *steps[:leading], wrong)
                self.cant(leading, row, *steps[:leading], wrong, *steps[leading:])
                self.cant(leading, row, *steps[:leading], wrong, *[0] * 100)

    def test_behind_the_last(self):
        for many in (0, 1, 127, 128):
            self.cant(0, some_list(*[NO] * many), many)
            self.cant(1, some_list(some_list(*[NO] * many)), 0, many)

    def test_a_number_into_a_record_and_a_text_into_a_list(self):
        self.cant(0, record(pair("0", NO)), 0)
        self.cant(0, some_list(NO), "0")
        self.cant(0, some_list(NO), "")

    def test_of_an_atom(self):
        for atom in ATOMS:
            for step in (-1, 0, 1, "", "a"):
                self.cant(0, atom, step)
                self.cant(1, some_list(atom), 0, step)
                self.cant(1, record(pair("a", atom)), "a", step, step)


class Refused(TakeCase):
    def test_no_path(self):
        for wrong in NO_PATHS:
            for row in (NO, some_list(NO, NO), record(pair("a", NO))):
                self.check([-5], take, row, wrong)

    def test_no_values_bytes(self):
        for wrong in NO_VALUES:
            self.check([-6], take, wrong, path(0))
            self.check([-6], take, wrong, path())
            self.check([-6], take, some_list(NO), wrong)
            self.check([-6], take, wrong, wrong)
            for no_path in NO_PATHS:
                self.check([-6], take, wrong, no_path)


if __name__ == "__main__":
    unittest.main()
