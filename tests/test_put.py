import unittest

import making
from making import (ATOMS, NO, NO_PATHS, NO_VALUES, YES, number, pair, path, record, some_bytes, some_list, text, vary,
                    within)
from onevalues.values import get, judge, put

NEW = text("new")
LONGEST_VALUE = 16777216


class PutCase(making.CallCase):
    def came(self, expected, row, steps, x=NEW):
        """That this comes of it, is a value, and that what's put is got."""
        self.check([0] + expected, put, row, path(*steps), x)
        self.assertEqual(judge(expected), [0])
        found = get(expected, path(*steps))
        self.assertEqual(expected[found[1]:found[1] + found[2]], x)

    def cant(self, leading, row, *steps):
        self.check([-4, leading], put, row, path(*steps), NEW)


class InThePlaceOf(PutCase):
    def test_the_whole(self):
        for row in [*ATOMS, some_list(NO), record(pair("a", NO)), within(63, NO)]:
            for x in [*ATOMS, some_list(), record(), within(63, NO)]:
                self.came(x, row, [], x)

    def test_members_of_a_list(self):
        for i in range(3):
            for x in [*ATOMS, some_list(NO), record(pair("a", NO))]:
                members = [number(1), some_list(YES), number(3)]
                row = some_list(*members)
                members[i] = x
                self.came(some_list(*members), row, [i], x)

    def test_members_of_a_record(self):
        for i, name in enumerate(("a", "b", "\u00e4")):
            for x in [*ATOMS, some_list(NO), record(pair("a", NO))]:
                pairs = [pair("a", number(1)), pair("b", some_list(YES)), pair("\u00e4", number(3))]
                row = record(*pairs)
                pairs[i] = pair(name, x)
                self.came(record(*pairs), row, [name], x)

    def test_the_only_member(self):
        self.came(some_list(NEW), some_list(NO), [0])
        self.came(record(pair("a", NEW)), record(pair("a", NO)), ["a"])

    def test_the_same_again(self):
        row = some_list(NO, record(pair("a", number(5))), YES)
        self.came(row, row, [1, "a"], number(5))
        self.came(row, row, [], row)

    def test_deep_within(self):
        def around(value):
            return record(pair("a", some_list(number(1), record(pair("b", some_list(NO, value, YES))), YES)),
                          pair("c", number(3)))
        for x in [*ATOMS, some_list(NO, NO), record(pair("z", NO)), around(NO)]:
            self.came(around(x), around(some_list(YES, NO)), ["a", 1, "b", 1], x)

    def test_what_is_longer_and_what_is_shorter(self):
        long = some_bytes([7] * 300)
        self.came(some_list(NO, long, YES), some_list(NO, NO, YES), [1], long)
        self.came(some_list(NO, NO, YES), some_list(NO, long, YES), [1], NO)
        self.came(some_list(NO, within(50, NO), YES), some_list(NO, NO, YES), [1], within(50, NO))


class BehindTheLast(PutCase):
    def test_of_a_list(self):
        self.came(some_list(NEW), some_list(), [0])
        self.came(some_list(NO, NEW), some_list(NO), [1])
        self.came(some_list(NO, YES, number(5), NEW), some_list(NO, YES, number(5)), [3])

    def test_of_a_list_deep_within(self):
        self.came(record(pair("a", some_list(NO, some_list(YES, NEW), NO)), pair("b", YES)),
                  record(pair("a", some_list(NO, some_list(YES), NO)), pair("b", YES)), ["a", 1, 1])
        self.came(some_list(some_list(), some_list(NEW), some_list()),
                  some_list(some_list(), some_list(), some_list()), [1, 0])

    def test_the_count_from_127_to_128(self):
        for many in (126, 127, 128, 129, 255, 256):
            self.came(some_list(*[NO] * many, NEW), some_list(*[NO] * many), [many])
            self.came(some_list(YES, some_list(*[NO] * many, NEW), YES), some_list(YES, some_list(*[NO] * many), YES),
                      [1, many])
        self.assertEqual(put(some_list(*[NO] * 127), path(127), YES)[:4], [0, 5, 128, 1])

    def test_the_count_from_16383_to_16384(self):
        row = [5] + vary(16383) + [0] * 16383
        self.came([5] + vary(16384) + [0] * 16383 + NEW, row, [16383])

    def test_one_past_that(self):
        for many in (0, 1, 2, 127, 128):
            row = some_list(*[NO] * many)
            for step in (many + 1, many + 2, many + 256, -1, -many - 1, 2 ** 32, 2 ** 64 + many, 256 ** 4096 - 1):
                self.cant(0, row, step)
                self.cant(2, some_list(NO, record(pair("a", row))), 1, "a", step)


class NewNames(PutCase):
    def test_before_all_between_two_behind_all(self):
        pairs = [pair("b", number(1)), pair("d", some_list(NO)), pair("f", number(3))]
        for before, name in enumerate(("a", "c", "e", "g")):
            self.came(record(*pairs[:before], pair(name, NEW), *pairs[before:]), record(*pairs), [name])

    def test_into_an_empty_record(self):
        for name in ("a", "A", "\0", " ", "\u00e4", "a" * 255):
            self.came(record(pair(name, NEW)), record(), [name])

    def test_beginnings_and_what_is_longer(self):
        self.came(record(pair("a", NEW), pair("aa", NO)), record(pair("aa", NO)), ["a"])
        self.came(record(pair("a", NO), pair("aa", NEW)), record(pair("a", NO)), ["aa"])
        self.came(record(pair("a", NO), pair("aa", NEW), pair("b", NO)), record(pair("a", NO), pair("b", NO)), ["aa"])

    def test_names_go_by_their_bytes(self):
        names = ["\0", "A", "Z", "a", "z", "\x7f", "\x80", "\u07ff", "\u0800", "\uffff", "\U00010000", "\U0010ffff"]
        for i, name in enumerate(names):
            others = [pair(other, NO) for other in names[:i] + names[i + 1:]]
            self.came(record(*others[:i], pair(name, NEW), *others[i:]), record(*others), [name])

    def test_deep_within(self):
        self.came(some_list(NO, record(pair("a", record(pair("x", NO), pair("y", NEW))), pair("b", YES))),
                  some_list(NO, record(pair("a", record(pair("x", NO))), pair("b", YES))), [1, "a", "y"])
        names = ("b", "d", "f")
        for before, name in enumerate(("a", "c", "e", "g")):
            pairs = [pair(other, NO) for other in names]
            more = [*pairs[:before], pair(name, NEW), *pairs[before:]]
            self.came(record(pair("a1", NO), pair("a2", NO), pair("x", record(*more))),
                      record(pair("a1", NO), pair("a2", NO), pair("x", record(*pairs))), ["x", name])

    def test_names_of_many_bytes(self):
        for length in (1, 127, 128, 254, 255):
            self.came(record(pair("a" * length, NEW), pair("b", NO)), record(pair("b", NO)), ["a" * length])
        self.came(record(pair("b", NO), pair("\u00e4" * 127, NEW)), record(pair("b", NO)), ["\u00e4" * 127])

    def test_names_that_are_none(self):
        for name in ("", "a" * 256, "a" * 1000, "\u00e4" * 128, "\u20ac" * 86):
            self.cant(0, record(), name)
            self.cant(0, record(pair("a", NO)), name)
            self.cant(2, some_list(NO, record(pair("a", record()))), 1, "a", name)

    def test_the_count_from_127_to_128(self):
        names = ["n" + str(1000 + i) for i in range(129)]
        for many in (126, 127, 128):
            pairs = [pair(name, NO) for name in names[:many]]
            self.came(record(*pairs, pair("x", NEW)), record(*pairs), ["x"])
            self.came(record(pair("a", NEW), *pairs), record(*pairs), ["a"])
            self.came(record(*pairs[:60], pair(names[59] + "0", NEW), *pairs[60:]), record(*pairs), [names[59] + "0"])


class CantBeDone(PutCase):
    def test_what_leads_nowhere_before_the_last_step(self):
        row = record(pair("a", some_list(NO, record(pair("b", some_list())))))
        steps = ["a", 1, "b", 0]
        for leading in range(3):
            for wrong in (-1, 7, "nowhere", ""):
                self.cant(leading, row, *steps[:leading], wrong, *steps[leading:])
                self.cant(leading, row, *steps[:leading], wrong, *[0] * 100)
        self.cant(1, row, "a", 2, 0)
        self.cant(0, row, "c", 0)
        self.cant(3, row, "a", 1, "b", 0, 0)

    def test_into_what_is_empty(self):
        for step in (-1, 1, 2, "", "a"):
            self.cant(0, some_list(), step)
            self.cant(1, some_list(some_list()), 0, step)
        for step in (-1, 0, 1, ""):
            self.cant(0, record(), step)
            self.cant(1, some_list(record()), 0, step)
        self.cant(0, some_list(), 0, 0)
        self.cant(0, record(), "a", "a")

    def test_a_number_into_a_record_and_a_text_into_a_list(self):
        for step in (0, 1, 2, -1):
            self.cant(0, record(pair("a", NO)), step)
        for step in ("", "0", "1", "a"):
            self.cant(0, some_list(NO), step)

    def test_into_an_atom(self):
        for atom in ATOMS:
            for step in (-1, 0, 1, "", "a"):
                self.cant(0, atom, step)
                self.cant(1, some_list(atom), 0, step)
                self.cant(1, record(pair("a", atom)), "a", step, step)


class NoValue(PutCase):
    def test_too_deep(self):
        for levels in (1, 2, 30, 62, 63):
            row = within(levels, YES)
            steps = [0] * levels
            fits = within(63 - levels, YES)
            self.came(within(levels, fits), row, steps, fits)
            self.came(within(levels - 1, some_list(YES, fits)), within(levels, YES), [0] * (levels - 1) + [1], fits)
            for x in (within(64 - levels, YES), within(63 - levels, some_list(NO)), within(63, NO)):
                self.check([-9], put, row, path(*steps), x)
                self.check([-9], put, row, path(*steps[:-1], 1), x)

    def test_too_deep_in_a_record(self):
        row = [6, 1, 1, 97] * 62 + record(pair("b", NO))
        steps = ["a"] * 62
        for name in ("a", "b", "c"):
            self.check([0], judge, put(row, path(*steps, name), NO)[1:])
            self.check([0], judge, put(row, path(*steps, name), some_list())[1:])
            self.check([-9], put, row, path(*steps, name), some_list(NO))

    def test_into_what_is_empty_and_as_deep_as_may_be(self):
        row = within(63, some_list())
        self.check([-9], put, row, path(*[0] * 64), NO)
        self.came(within(63, NO), row, [0] * 63, NO)
        self.check([-9], put, within(63, record()), path(*[0] * 63, "a"), NO)
        self.cant(63, row, *[0] * 63, 1)

    def test_only_what_comes_is_looked_at(self):
        row = some_list(within(62, NO), NO)
        self.came(some_list(NO, NO), row, [0], NO)
        self.came(some_list(within(62, NO), within(62, NO)), row, [1], within(62, NO))
        self.check([-9], put, row, path(1), within(63, NO))

    def test_too_long(self):
        x = [3] + vary(LONGEST_VALUE - 7) + [0] * (LONGEST_VALUE - 7)
        self.assertEqual(len(x), LONGEST_VALUE - 2)
        self.assertEqual(put([5, 1, 0], path(0), x), [0, 5, 1] + x)
        self.assertEqual(put([5, 2, 0, 0], path(0), x), [-9])
        self.assertEqual(put([5, 0], path(0), x), [0, 5, 1] + x)
        self.assertEqual(put([5, 1, 0], path(1), x), [-9])
        self.assertEqual(put([6, 0], path("a"), x), [-9])


class Refused(PutCase):
    def test_no_path(self):
        for wrong in NO_PATHS:
            for row in (NO, some_list(NO, NO), record(pair("a", NO))):
                self.check([-5], put, row, wrong, NEW)
                self.check([-5], put, row, wrong, within(63, NO))

    def test_no_values_bytes(self):
        for wrong in NO_VALUES:
            self.check([-6], put, wrong, path(), NEW)
            self.check([-6], put, NO, wrong, NEW)
            self.check([-6], put, NO, path(), wrong)
            self.check([-6], put, wrong, wrong, wrong)
            for no_path in NO_PATHS:
                self.check([-6], put, wrong, no_path, NEW)
                self.check([-6], put, NO, no_path, wrong)
            self.check([-6], put, NO, path(0), wrong)

    def test_in_the_order_told(self):
        self.check([-5], put, NO, path(0, NO), within(63, NO))
        self.check([-4, 0], put, NO, path(0), within(63, NO))
        self.check([-4, 1], put, some_list(NO), path(0, 0), within(63, NO))
        self.check([-9], put, some_list(NO), path(0), within(63, NO))


if __name__ == "__main__":
    unittest.main()
