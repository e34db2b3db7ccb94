import unittest

import making
from making import NO, YES, identity, moment, number, pair, record, some_bytes, some_list, text, vary, within
from onevalues.values import member

VALUES = [NO, YES, number(0), number(-300), some_bytes([1, 2, 3]), text("a\u20ac"), some_list(), some_list(NO, YES),
          record(), record(pair("b", NO), pair("c", some_list(YES))), moment(5), identity(range(32)), within(20, NO),
          some_bytes([7] * 200)]


class Member(making.CallCase):
    def test_a_list(self):
        row = some_list(*VALUES)
        place = 2
        for i, value in enumerate(VALUES):
            self.check([0, 0, 0, place, len(value)], member, i, row)
            self.assertEqual(row[place:place + len(value)], value)
            place += len(value)
        self.assertEqual(place, len(row))

    def test_a_record(self):
        names = ["a", "aa", "b" * 127, "b" * 128, "b" * 255, "c", "\u00e4", "\u20ac", "\U0001f600"]
        row = record(*[pair(name, value) for name, value in zip(names, VALUES)])
        place = 2
        for i, name in enumerate(names):
            length = len(name.encode())
            name_place = place + len(vary(length))
            value_place = name_place + length
            self.check([0, name_place, length, value_place, len(VALUES[i])], member, i, row)
            self.assertEqual(bytes(row[name_place:value_place]).decode(), name)
            place = value_place + len(VALUES[i])
        self.assertEqual(place, len(row))

    def test_behind_a_longer_varying_number(self):
        row = some_list(*[number(i) for i in range(300)])
        self.check([0, 0, 0, 3, 2], member, 0, row)
        self.check([0, 0, 0, 5, 3], member, 1, row)
        self.check([0, 0, 0, len(row) - 4, 4], member, 299, row)
        self.check([-4], member, 300, row)

    def test_members_of_members_are_not_its_own(self):
        row = some_list(some_list(NO, YES, NO))
        self.check([0, 0, 0, 2, 5], member, 0, row)
        self.check([-4], member, 1, row)

    def test_no_such_member(self):
        for row, many in ((some_list(), 0), (some_list(NO), 1), (some_list(*VALUES), len(VALUES)), (record(), 0),
                          (record(pair("a", NO), pair("b", YES)), 2)):
            for i in (-1, -2, -many, -10 ** 18, many, many + 1, 2 ** 32, 2 ** 63, 10 ** 18):
                if i != 0 or many == 0:
                    self.check([-4], member, i, row)

    def test_an_atom_has_none(self):
        for row in (NO, YES, number(5), some_bytes([0, 1]), text("abc"), moment(1), identity(range(32))):
            for i in (-10 ** 18, -1, 0, 1, 2, 10 ** 18):
                self.check([-4], member, i, row)

    def test_no_values_bytes(self):
        for row in ([], [9], [5, 2, 0], [5, 2, 0, 9], [6, 2, 1, 98, 0, 1, 97, 0], within(64, NO), some_list(NO) + NO):
            for i in (-10 ** 18, -1, 0, 1, 10 ** 18):
                self.check([-6], member, i, row)


if __name__ == "__main__":
    unittest.main()
