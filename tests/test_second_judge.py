import itertools
import random
import unittest

import making
from making import depth, made, spoilt
from onevalues.values import about, judge, member

UTF8_EDGES = [0x00, 0x7F, 0x80, 0x8F, 0x90, 0x9F, 0xA0, 0xBF, 0xC0, 0xC1, 0xC2, 0xDF, 0xE0, 0xE1, 0xEC, 0xED, 0xEE,
              0xEF, 0xF0, 0xF1, 0xF3, 0xF4, 0xF5, 0xFF]


def size(value):
    if value[0] == 4:
        return len(value[1].encode())
    return len(value[1]) if value[0] in (3, 5, 6) else 0


class AgainstSecondJudge(unittest.TestCase):
    @classmethod
    def setUpClass(cls):
        cls.second = making.SecondJudge()

    def same(self, row):
        expected = self.second.told(row)
        if judge(row) != expected:
            self.assertEqual(judge(row), expected, row)
        if expected == [0]:
            value = self.second.judge(row)
            self.assertEqual(about(row), [0, value[0], size(value), depth(value)], row)
        else:
            self.assertEqual(about(row), [-6], row)
        return expected

    def test_all_rows_of_at_most_two_bytes(self):
        for length in range(3):
            for row in itertools.product(range(256), repeat=length):
                self.same(list(row))

    def test_all_short_rows_of_small_bytes(self):
        for length in range(3, 7):
            for row in itertools.product((0, 1, 2, 5, 6), repeat=length):
                self.same(list(row))
        for row in itertools.product((0, 1, 2, 3, 4, 97, 128), repeat=5):
            self.same([6] + list(row))

    def test_varying_numbers(self):
        for length in range(1, 7):
            for told in itertools.product((0, 1, 15, 16, 127, 128, 255), repeat=length):
                self.same([3] + list(told))

    def test_utf8(self):
        for length in range(1, 4):
            for row in itertools.product(UTF8_EDGES, repeat=length):
                self.same([4, length] + list(row))
        for row in itertools.product(UTF8_EDGES[18:23], UTF8_EDGES[:11], UTF8_EDGES[:11], UTF8_EDGES[:11]):
            self.same([4, 4] + list(row))

    def test_one_value_has_one_row_of_bytes(self):
        rows = {}
        alphabet = (0, 1, 2, 3, 4, 5, 6, 97)
        for length in range(1, 6):
            for row in itertools.product(alphabet, repeat=length):
                if judge(list(row)) == [0]:
                    value = self.second.judge(row)
                    self.assertEqual(rows.setdefault(value, row), row)
        self.assertGreater(len(rows), 100)

    def test_values_and_what_is_spoilt(self):
        source = random.Random(1)
        for turn in range(3000):
            row = made(source, source.randrange(1, 7))
            self.assertEqual(self.same(row), [0])
            for again in range(4):
                self.same(spoilt(source, row))

    def test_members_are_what_the_bytes_say(self):
        source = random.Random(2)
        for turn in range(500):
            row = made(source, 4)
            value = self.second.judge(row)
            many = size(value) if value[0] in (5, 6) else 0
            for i in range(many):
                found = member(i, row)
                name = row[found[1]:found[1] + found[2]]
                inner = self.second.judge(row[found[3]:found[3] + found[4]])
                if value[0] == 5:
                    self.assertEqual((found[0], found[1], found[2], inner), (0, 0, 0, value[1][i]))
                else:
                    self.assertEqual((found[0], bytes(name).decode(), inner), (0,) + value[1][i])
            self.assertEqual(member(many, row), [-4])

    def test_each_beginning_ends_too_soon_and_what_follows_is_behind(self):
        source = random.Random(3)
        for turn in range(300):
            row = made(source, 4)
            for length in range(len(row)):
                self.assertEqual(judge(row[:length]), [-6, 1, length])
            self.assertEqual(judge(row + [turn % 256]), [-6, 8, len(row)])

    def test_what_comes_behind_the_first_fault_changes_nothing(self):
        source = random.Random(4)
        for turn in range(2000):
            row = spoilt(source, made(source, 4))
            told = judge(row)
            if told != [0] and told[1] != 1:
                self.assertEqual(judge(row + [source.randrange(256)] * 3), told)


if __name__ == "__main__":
    unittest.main()
