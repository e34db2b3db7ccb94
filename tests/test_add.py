import unittest

import making
from making import (ATOMS, NO, NO_PATHS, NO_VALUES, YES, number, pair, path, record, some_bytes, some_list, text, vary,
                    within)
from onevalues.values import add, get, judge, take

NEW = text("new")
LONGEST_VALUE = 16777216


class AddCase(making.CallCase):
    def came(self, expected, row, steps, x=NEW):
        """That this comes of it, is a value, that what's added is got, and that it's as before without it."""
        self.check([0] + expected, add, row, path(*steps), x)
        self.assertEqual(judge(expected), [0])
        found = get(expected, path(*steps))
        self.assertEqual(expected[found[1]:found[1] + found[2]], x)
        self.assertEqual(take(expected, path(*steps)), [0] + row)

    def cant(self, leading, row, *steps):
        self.check([-4, leading], add, row, path(*steps), NEW)


class Added(AddCase):
    def test_before_each_member_and_behind_all(self):
        members = [number(1), some_list(YES), number(3), record(pair("a", NO))]
        for i in range(5):
            for x in [*ATOMS, some_list(), some_list(NO), record(), record(pair("a", NO))]:
                self.came(some_list(*members[:i], x, *members[i:]), some_list(*members), [i], x)

    def test_to_one_member(self):
        self.came(some_list(NEW, NO), some_list(NO), [0])
        self.came(some_list(NO, NEW), some_list(NO), [1])

    def test_into_an_empty_list(self):
        for x in [*ATOMS, some_list(), record(), within(62, NO)]:
            self.came(some_list(x), some_list(), [0], x)
        self.came(some_list(NO, some_list(NEW), YES), some_list(NO, some_list(), YES), [1, 0])
        self.came(record(pair("a", some_list(NEW))), record(pair("a", some_list())), ["a", 0])

    def test_one_that_is_there_already(self):
        self.came(some_list(NO, NO, NO), some_list(NO, NO), [1], NO)

    def test_deep_within(self):
        def around(*members):
            return record(pair("a", some_list(number(1), record(pair("b", some_list(*members))), YES)),
                          pair("c", number(3)))
        members = [NO, some_list(NO, YES), YES]
        for i in range(4):
            for x in [*ATOMS, some_list(NO, NO), record(pair("z", NO)), around(NO)]:
                self.came(around(*members[:i], x, *members[i:]), around(*members), ["a", 1, "b", i], x)
        self.came(some_list(NO, some_list(some_list(NEW, NO)), NO), some_list(NO, some_list(some_list(NO)), NO),
                  [1, 0, 0])

    def test_where_the_count_takes_another_byte(self):
        for many in (126, 127, 128, 129, 255, 256):
            members = [number(k) for k in range(many)]
            for i in (0, 1, 60, many - 1, many):
                more = [*members[:i], NEW, *members[i:]]
                self.came(some_list(*more), some_list(*members), [i])
                self.came(some_list(YES, some_list(*more), YES), some_list(YES, some_list(*members), YES), [1, i])
                self.came(record(pair("a", some_list(*more)), pair("b", NO)),
                          record(pair("a", some_list(*members)), pair("b", NO)), ["a", i])
        self.assertEqual(add(some_list(*[NO] * 127), path(3), YES)[:5], [0, 5, 128, 1, 0])

    def test_the_count_from_16383_to_16384(self):
        row = [5] + vary(16383) + [0] * 16383
        for i in (0, 7000, 16383):
            self.came([5] + vary(16384) + [0] * i + NEW + [0] * (16383 - i), row, [i])


class CantBeDone(AddCase):
    def test_a_last_step_out_of_the_list(self):
        for many in (0, 1, 2, 127, 128):
            row = some_list(*[NO] * many)
            for step in (-1, -2, -many - 1, many + 1, many + 2, many + 256, 2 ** 32, 2 ** 64 + many, 256 ** 4096 - 1,
                         -(256 ** 4096 - 1)):
                self.cant(0, row, step)
                self.cant(2, some_list(NO, record(pair("a", row))), 1, "a", step)

    def test_a_last_step_that_is_a_text(self):
        for step in ("", "0", "1", "a", "a" * 256):
            self.cant(0, some_list(NO, NO), step)
            self.cant(0, some_list(), step)
            self.cant(2, some_list(NO, record(pair("a", some_list(NO)))), 1, "a", step)

    def test_into_a_record(self):
        row = record(pair("a", NO), pair("b", some_list()))
        for step in (-1, 0, 1, 2, 3, "", "c", "a" * 256):
            self.cant(0, row, step)
            self.cant(1, some_list(row), 0, step)
            self.cant(0, record(), step)
        # The last step leads somewhere too, though nothing can be added there.
        self.cant(1, row, "a")
        self.cant(1, row, "b")
        self.cant(2, some_list(row), 0, "a")

    def test_into_an_atom(self):
        for atom in ATOMS:
            for step in (-1, 0, 1, "", "a"):
                self.cant(0, atom, step)
                self.cant(1, some_list(atom), 0, step)
                self.cant(1, record(pair("a", atom)), "a", step)
                self.cant(1, record(pair("a", atom)), "a", step, step)

    def test_what_leads_nowhere_before_the_last_step(self):
        row = record(pair("a", some_list(NO, record(pair("b", some_list())))))
        steps = ["a", 1, "b", 0]
        for leading in range(3):
            for wrong in (-1, 2, 7, "nowhere", ""):
                self.cant(leading, row, *steps[:leading], wrong, *steps[leading:])
                self.cant(leading, row, *steps[:leading], wrong, 0)
                self.cant(leading, row, *steps[:leading], wrong, *[0] * 100)
        self.cant(3, row, "a", 1, "b", 0, 0)
        self.cant(1, row, "a", 2, 0)
        self.cant(0, some_list(), 0, 0)

    def test_an_empty_path(self):
        for row in [*ATOMS, some_list(), some_list(NO), record(), record(pair("a", NO))]:
            self.cant(0, row)

    def test_how_many_lead_at_each_place(self):
        row = within(30, YES)
        for leading in range(30):
            self.cant(leading, row, *[0] * leading, 2)
            self.cant(leading, row, *[0] * leading, 1, 0)
            self.cant(leading, row, *[0] * leading, "a")
            self.came(within(leading, some_list(NEW, within(29 - leading, YES))), row, [0] * (leading + 1))
        self.cant(30, row, *[0] * 31)


class NoValue(AddCase):
    def test_too_deep(self):
        for levels in (1, 2, 30, 62, 63):
            row = within(levels, YES)
            fits = within(63 - levels, YES)
            for last in (0, 1):
                steps = [0] * (levels - 1) + [last]
                both = [YES, fits] if last else [fits, YES]
                self.came(within(levels - 1, some_list(*both)), row, steps, fits)
                for x in (within(64 - levels, YES), within(63 - levels, some_list(NO)), within(63, NO)):
                    self.check([-9], add, row, path(*steps), x)

    def test_too_deep_in_a_record(self):
        row = [6, 1, 1, 97] * 62 + some_list(NO)
        for x in (NO, some_list(), record()):
            self.check([0], judge, add(row, path(*["a"] * 62, 1), x)[1:])
        self.check([-9], add, row, path(*["a"] * 62, 1), some_list(NO))

    def test_into_what_is_empty_and_as_deep_as_may_be(self):
        row = within(63, some_list())
        self.check([-9], add, row, path(*[0] * 64), NO)
        self.cant(63, row, *[0] * 63, 1)
        self.came(within(62, some_list(NO, some_list())), row, [0] * 63, NO)

    def test_too_long(self):
        x = [3] + vary(LONGEST_VALUE - 7) + [0] * (LONGEST_VALUE - 7)
        self.assertEqual(len(x), LONGEST_VALUE - 2)
        self.assertEqual(add([5, 0], path(0), x), [0, 5, 1] + x)
        self.assertEqual(add([5, 1, 0], path(0), x), [-9])
        self.assertEqual(add([5, 1, 0], path(1), x), [-9])
        self.assertEqual(add([5, 1, 5, 0], path(0, 0), x), [-9])


class Refused(AddCase):
    def test_no_path(self):
        for wrong in NO_PATHS:
            for row in (NO, some_list(NO, NO), record(pair("a", NO))):
                self.check([-5], add, row, wrong, NEW)
                self.check([-5], add, row, wrong, within(63, NO))

    def test_no_values_bytes(self):
        for wrong in NO_VALUES:
            self.check([-6], add, wrong, path(0), NEW)
            self.check([-6], add, some_list(), wrong, NEW)
            self.check([-6], add, some_list(), path(0), wrong)
            self.check([-6], add, wrong, wrong, wrong)
            for no_path in NO_PATHS:
                self.check([-6], add, wrong, no_path, NEW)
                self.check([-6], add, NO, no_path, wrong)
            self.check([-6], add, NO, path(0), wrong)

    def test_in_the_order_told(self):
        self.check([-5], add, NO, path(0, NO), within(63, NO))
        self.check([-4, 0], add, NO, path(0), within(63, NO))
        self.check([-4, 1], add, some_list(NO), path(0, 0), within(63, NO))
        self.check([-4, 0], add, some_list(NO), path(2), within(63, NO))
        self.check([-9], add, some_list(NO), path(0), within(63, NO))
        self.check([0] + some_list(some_bytes([9]), NO), add, some_list(NO), path(0), some_bytes([9]))


if __name__ == "__main__":
    unittest.main()
