import unittest

import making
from making import ATOMS, NO, NO_PATHS, NO_VALUES, YES, number, pair, path, record, some_list, text, within
from onevalues.values import get

DEEP = record(pair("a", some_list(number(1), record(pair("b", some_list(NO, text("found"), YES))), YES)),
              pair("c", number(3)))


class GetCase(making.CallCase):
    def found(self, value, row, *steps):
        """That the value's bytes stand in the place that's told, which is given back."""
        told = self.answer(get, row, path(*steps))
        self.assertEqual((len(told), told[0], told[2]), (3, 0, len(value)))
        self.assertEqual(row[told[1]:told[1] + told[2]], value)
        return told[1]

    def nowhere(self, leading, row, *steps):
        self.check([-4, leading], get, row, path(*steps))


class Leads(GetCase):
    def test_the_empty_path(self):
        for row in [*ATOMS, some_list(), record(), DEEP, within(63, NO)]:
            self.check([0, 0, len(row)], get, row, path())

    def test_members_of_a_list(self):
        members = [*ATOMS, some_list(NO), record(pair("a", NO))]
        row = some_list(*members)
        place = 2
        for i, member in enumerate(members):
            self.check([0, place, len(member)], get, row, path(i))
            place += len(member)

    def test_members_of_a_record(self):
        names = ["A", "a", "a" * 200, "b", "\u00e4", "\u20ac", "\U0001f600", "\U0010ffff" * 63]
        members = list(zip(names, ATOMS))
        row = record(*[pair(name, value) for name, value in members])
        place = 2
        for name, value in members:
            place += len(pair(name, []))
            self.check([0, place, len(value)], get, row, path(name))
            place += len(value)

    def test_many_steps_into_both_in_turn(self):
        self.check([0, 4, 21], get, DEEP, path("a"))
        self.assertEqual(self.found(number(1), DEEP, "a", 0), 6)
        self.found(YES, DEEP, "a", 2)
        self.found(some_list(NO, text("found"), YES), DEEP, "a", 1, "b")
        self.found(NO, DEEP, "a", 1, "b", 0)
        self.found(text("found"), DEEP, "a", 1, "b", 1)
        self.found(YES, DEEP, "a", 1, "b", 2)
        self.found(number(3), DEEP, "c")

    def test_the_same_value_in_several_places(self):
        row = some_list(NO, some_list(NO, NO), NO)
        self.check([0, 2, 1], get, row, path(0))
        self.check([0, 5, 1], get, row, path(1, 0))
        self.check([0, 6, 1], get, row, path(1, 1))
        self.check([0, 7, 1], get, row, path(2))

    def test_numbers_of_more_than_a_byte(self):
        row = some_list(*[number(i) for i in range(300)])
        for i in (0, 1, 127, 128, 255, 256, 257, 299):
            self.found(number(i), row, i)

    def test_names_that_begin_alike(self):
        row = record(pair("a", number(1)), pair("aa", number(2)), pair("ab", number(3)), pair("b", number(4)))
        for i, name in enumerate(("a", "aa", "ab", "b")):
            self.found(number(i + 1), row, name)
        for name in ("", "A", "aaa", "ac", "a ", "c", "bb"):
            self.nowhere(0, row, name)

    def test_as_deep_as_may_be(self):
        row = within(63, YES)
        for levels in range(64):
            self.check([0, 2 * levels, 127 - 2 * levels], get, row, path(*[0] * levels))
        row = [6, 1, 1, 97] * 63 + NO
        for levels in range(64):
            self.check([0, 4 * levels, 253 - 4 * levels], get, row, path(*["a"] * levels))


class LeadsNowhere(GetCase):
    WRONG_INTO_A_LIST = [-1, -2, -3, -256, 3, 4, 255, 256, 2 ** 32, 2 ** 64, 2 ** 64 + 1, 256 ** 4096 - 1,
                         1 - 256 ** 4096, "", "0", "a", "\u00e4"]
    WRONG_INTO_A_RECORD = [0, 1, -1, 97, 256 ** 4096 - 1, "", "A", "b", "aa", "a" * 300, "\u00e4"]

    def test_into_a_list(self):
        for step in self.WRONG_INTO_A_LIST:
            self.nowhere(0, some_list(NO, YES, NO), step)
            self.nowhere(0, some_list(NO, YES, NO), step, 0)

    def test_into_a_record(self):
        for step in self.WRONG_INTO_A_RECORD:
            self.nowhere(0, record(pair("a", NO)), step)
            self.nowhere(0, record(pair("a", NO)), step, "a", 0)

    def test_into_what_is_empty(self):
        for step in (-1, 0, 1, "", "a"):
            self.nowhere(0, some_list(), step)
            self.nowhere(0, record(), step)
            self.nowhere(1, some_list(record()), 0, step)

    def test_into_an_atom(self):
        for atom in ATOMS:
            for step in (-1, 0, 1, "", "a"):
                self.nowhere(0, atom, step)
                self.nowhere(0, atom, step, step)
                self.nowhere(1, some_list(atom), 0, step)
                self.nowhere(2, record(pair("a", some_list(NO, atom))), "a", 1, step, 0)

    def test_at_each_place_of_a_path(self):
        steps = ["a", 1, "b", 1]
        for leading in range(5):
            for wrong in (-1, 7, 2 ** 70, "nowhere", ""):
                self.nowhere(leading, DEEP, *steps[:leading], wrong)
                self.nowhere(leading, DEEP, *steps[:leading], wrong, *steps[leading:])
                self.nowhere(leading, DEEP, *steps[:leading], wrong, *[0] * 100)

    def test_behind_the_deepest(self):
        self.nowhere(63, within(63, YES), *[0] * 64)
        self.nowhere(63, within(63, some_list()), *[0] * 64)
        self.nowhere(63, within(63, YES), *[0] * 1000)

    def test_a_number_is_no_name_and_a_text_no_number(self):
        self.nowhere(0, some_list(NO), "0")
        self.nowhere(0, record(pair("0", NO)), 0)
        self.found(NO, record(pair("0", NO)), "0")


class Refused(GetCase):
    def test_no_path(self):
        for wrong in NO_PATHS:
            for row in (NO, some_list(NO, NO), record(pair("a", NO)), DEEP):
                self.check([-5], get, row, wrong)

    def test_no_values_bytes(self):
        for wrong in NO_VALUES:
            self.check([-6], get, wrong, path())
            self.check([-6], get, DEEP, wrong)
            self.check([-6], get, wrong, wrong)
            self.check([-6], get, wrong, path("nowhere"))
            for no_path in NO_PATHS:
                self.check([-6], get, wrong, no_path)


if __name__ == "__main__":
    unittest.main()
