import functools
import itertools
import random
import unittest

import making
from making import (NO, NO_VALUES, YES, identity, made, moment, number, pair, record, some_bytes, some_list, text,
                    within)
from onevalues.values import order

GREATEST = 256 ** 4096 - 1
ONE_OF_EACH_KIND = [NO, YES, number(7), some_bytes([7]), text("7"), some_list(number(7)), record(pair("g", number(7))),
                    moment(7), identity([7] * 32)]


class Order(making.CallCase):
    def rising(self, rows):
        """That each comes before all behind it, told both ways, and is the same as itself."""
        for i, a in enumerate(rows):
            self.check([0], order, a, list(a))
            for b in rows[i + 1:]:
                self.check([1], order, a, b)
                self.check([2], order, b, a)

    def test_by_kind(self):
        self.rising(ONE_OF_EACH_KIND)

    def test_the_kind_goes_before_what_is_in_it(self):
        great = [NO, YES, number(GREATEST), some_bytes([255] * 300), text("\U0010ffff" * 80), within(60, YES),
                 record(pair("\U0010ffff", within(60, YES))), moment(2 ** 63 - 1), identity([255] * 32)]
        small = [NO, YES, number(-GREATEST), some_bytes([]), text(""), some_list(), record(), moment(-2 ** 63),
                 identity([0] * 32)]
        for i, j in itertools.product(range(9), repeat=2):
            if i != j:
                self.check([1 if i < j else 2], order, great[i], small[j])

    def test_numbers(self):
        amounts = [-GREATEST, 1 - GREATEST, -256 ** 4095, -256 ** 8 - 1, -256 ** 8, -65536, -65535, -513, -512, -257,
                   -256, -255, -128, -127, -2, -1, 0, 1, 2, 127, 128, 255, 256, 257, 512, 513, 65535, 65536, 256 ** 8,
                   256 ** 8 + 1, 256 ** 4095, GREATEST - 1, GREATEST]
        self.rising([number(amount) for amount in amounts])

    def test_numbers_whose_bytes_rise_otherwise(self):
        self.check([1], order, number(0x0102), number(0x0201))
        self.check([2], order, number(-0x0102), number(-0x0201))
        self.check([1], order, number(0x01FF), number(0x0200))
        self.check([2], order, number(-0x01FF), number(-0x0200))

    def test_moments(self):
        amounts = [-2 ** 63, 1 - 2 ** 63, -2 ** 32, -256, -255, -2, -1, 0, 1, 255, 256, 257, 511, 512, 2 ** 32,
                   2 ** 63 - 2, 2 ** 63 - 1]
        self.rising([moment(amount) for amount in amounts])

    def test_bytes(self):
        rows = [[], [0], [0, 0], [0, 1], [1], [1, 0], [1, 2, 3], [1, 2, 3, 0], [1, 2, 4], [1, 3], [2], [127], [128],
                [255], [255, 0], [255, 255]]
        self.rising([some_bytes(row) for row in rows])

    def test_bytes_that_differ_in_one_place(self):
        row = [100] * 300
        for place in (0, 1, 149, 298, 299):
            greater = row[:place] + [101] + row[place + 1:]
            self.rising([some_bytes(row), some_bytes(greater)])
            self.rising([some_bytes(row[:place]), some_bytes(row)])
        self.check([1], order, some_bytes([100] * 300), some_bytes([101]))

    def test_texts(self):
        words = ["", "\0", " ", "A", "B", "Z", "a", "a\0", "aa", "ab", "b", "ba", "z", "\x7f", "\x80", "\u07ff",
                 "\u0800",
                 "\ud7ff", "\ue000", "\uffff", "\U00010000", "\U0010ffff"]
        self.rising([text(word) for word in words])

    def test_texts_whose_scalar_values_rise_otherwise_than_their_number_of_bytes(self):
        self.rising([text("zzzzzz"), text("\u00e4"), text("\u20ac"), text("\U0001f600")])
        self.rising([text("\uffff" * 3), text("\U00010000")])
        self.rising([text("\u00e4a"), text("\u00e4\u00e4"), text("\u00e5")])

    def test_ids(self):
        row = [100] * 32
        for place in (0, 1, 15, 30, 31):
            self.rising([identity(row), identity(row[:place] + [101] + row[place + 1:])])
        self.rising([identity([0] * 32), identity([0] * 31 + [1]), identity([1] + [0] * 31), identity([255] * 32)])

    def test_lists(self):
        self.rising([some_list(), some_list(NO), some_list(NO, NO), some_list(NO, NO, NO), some_list(NO, YES),
                     some_list(YES), some_list(YES, NO), some_list(number(-1)), some_list(number(0)),
                     some_list(number(0), NO), some_list(number(300)), some_list(some_list()),
                     some_list(some_list(), NO), some_list(some_list(NO)), some_list(some_list(NO), NO),
                     some_list(some_list(YES))])

    def test_a_member_goes_before_how_many_there_are(self):
        self.check([1], order, some_list(*[NO] * 200), some_list(YES))
        self.check([2], order, some_list(NO, YES), some_list(*[NO] * 200))
        self.check([1], order, some_list(*[NO] * 127), some_list(*[NO] * 128))

    def test_records(self):
        self.rising([record(),
                     record(pair("a", NO)),
                     record(pair("a", NO), pair("b", NO)),
                     record(pair("a", NO), pair("b", YES)),
                     record(pair("a", NO), pair("c", NO)),
                     record(pair("a", YES)),
                     record(pair("a", YES), pair("b", NO)),
                     record(pair("a", number(-3))),
                     record(pair("a", record(pair("a", NO)))),
                     record(pair("a", record(pair("b", NO)))),
                     record(pair("aa", NO)),
                     record(pair("b", NO)),
                     record(pair("b" * 200, NO)),
                     record(pair("\u00e4", NO)),
                     record(pair("\u20ac", NO))])

    def test_a_name_goes_before_its_value_and_a_pair_before_the_next(self):
        self.check([1], order, record(pair("a", identity([255] * 32))), record(pair("b", NO)))
        self.check([1], order, record(pair("a", NO), pair("z", YES)), record(pair("a", YES), pair("b", NO)))
        self.check([2], order, record(pair("aa", NO)), record(pair("a", YES)))

    def test_deep_within(self):
        for levels in (1, 2, 10, 62, 63):
            self.rising([within(levels, NO), within(levels, YES), within(levels, number(-5)), within(levels,
                                                                                                     number(5))])
        lower = record(pair("a", some_list(NO, record(pair("b", some_list(number(1), number(2)))))), pair("z", YES))
        upper = record(pair("a", some_list(NO, record(pair("b", some_list(number(1), number(3)))))), pair("z", NO))
        self.rising([lower, upper])

    def test_what_comes_behind_a_list_counts_when_the_list_is_the_same(self):
        same = some_list(NO, some_list(YES, some_list()))
        self.rising([some_list(same, same, NO), some_list(same, same, YES)])
        self.rising([record(pair("a", same), pair("b", NO)), record(pair("a", same), pair("b", YES))])

    def test_no_values_bytes(self):
        for wrong in NO_VALUES:
            self.check([-6], order, wrong, NO)
            self.check([-6], order, within(3, NO), wrong)
            self.check([-6], order, wrong, wrong)
        for first, second in itertools.product(NO_VALUES, repeat=2):
            self.check([-6], order, first, second)

    def test_one_row_handed_in_twice(self):
        for row in ONE_OF_EACH_KIND:
            handed = list(row)
            self.assertEqual(order(handed, handed), [0])
            self.assertEqual(handed, row)


class Line(unittest.TestCase):
    def some_values(self, how_many):
        source = random.Random(5)
        rows = [made(source, source.randrange(1, 5)) for turn in range(how_many)]
        return rows + [some_list(*rows[:3]), some_list(*rows[:4]), some_list(*rows[:2], rows[3])]

    def test_each_pair_both_ways(self):
        second = making.SecondJudge()
        rows = self.some_values(150)
        values = [second.judge(row) for row in rows]
        for a, b in itertools.product(range(len(rows)), repeat=2):
            # Python's own order of tuples, numbers, bytes and texts (by scalar values, so by their UTF-8) is just it.
            expected = [0] if values[a] == values[b] else [1] if values[a] < values[b] else [2]
            self.assertEqual(order(rows[a], rows[b]), expected, (rows[a], rows[b]))
            self.assertEqual(order(rows[a], rows[b]) == [0], rows[a] == rows[b])

    def test_chains_of_three(self):
        rows = self.some_values(40)
        told = {(a, b): order(rows[a], rows[b])[0] for a, b in itertools.product(range(len(rows)), repeat=2)}
        turned = {0: 0, 1: 2, 2: 1}
        for a, b in told:
            self.assertEqual(told[b, a], turned[told[a, b]])
        for a, b, c in itertools.product(range(len(rows)), repeat=3):
            if told[a, b] in (0, 1) and told[b, c] in (0, 1):
                self.assertEqual(told[a, c], max(told[a, b], told[b, c]))

    def test_values_can_be_brought_into_a_row(self):
        rows = self.some_values(200)
        turned = {0: 0, 1: -1, 2: 1}
        source = random.Random(6)
        one_way = sorted(rows, key=functools.cmp_to_key(lambda a, b: turned[order(a, b)[0]]))
        source.shuffle(rows)
        self.assertEqual(sorted(rows, key=functools.cmp_to_key(lambda a, b: turned[order(a, b)[0]])), one_way)


if __name__ == "__main__":
    unittest.main()
