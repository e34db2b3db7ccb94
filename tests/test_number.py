import math
import random
import unittest

import making
from making import ATOMS, NO, NO_VALUES, YES, moment, pair, record, some_bytes, some_list, text
from making import number as row_of_number
from onevalues.values import number, order

GREATEST = 256 ** 4096 - 1
SMALL = [0, 1, -1, 2, -3, 7, -7, 10, 128, 255, 256, -256, 65535]
LARGE = [2 ** 64, -10 ** 50 - 1, 256 ** 100 - 1, 3 ** 500, GREATEST, -GREATEST]
NO_NUMBERS = [*[atom for atom in ATOMS if atom[0] != 2], some_list(), some_list(row_of_number(5)), record(),
              record(pair("number", row_of_number(5))), text("5"), some_bytes([2, 2, 5]), moment(5)]
OPERATIONS = range(10)
NO_OPERATIONS = [-1, 10, 11, -10, 100, 255, 256, -10 ** 18, 10 ** 18, 2 ** 32, 2 ** 64]


class NumberCase(making.CallCase):
    def came(self, expected, op, a, b):
        answer = expected
        if isinstance(expected, int):
            answer = [0] + row_of_number(expected) if abs(expected) <= GREATEST else [-9]
        self.check(answer, number, op, row_of_number(a), row_of_number(b))


class Basic(NumberCase):
    def test_sums_differences_products(self):
        for a in [*SMALL, *LARGE]:
            for b in [*SMALL, *LARGE]:
                self.came(a + b, 0, a, b)
                self.came(a - b, 1, a, b)
                self.came(a * b, 2, a, b)

    def test_written_out(self):
        self.check([0, 2, 2, 12], number, 0, [2, 2, 5], [2, 2, 7])
        self.check([0, 2, 3, 2], number, 1, [2, 2, 5], [2, 2, 7])
        self.check([0, 2, 2, 35], number, 2, [2, 3, 5], [2, 3, 7])
        self.check([0, 2, 0], number, 0, [2, 2, 5], [2, 3, 5])
        self.check([0, 2, 4, 0, 1], number, 0, [2, 2, 255], [2, 2, 1])
        self.check([0, 2, 3, 2], number, 3, [2, 3, 5], [2, 2, 3])
        self.check([0, 2, 2, 1], number, 4, [2, 3, 5], [2, 2, 3])

    def test_at_the_ends_of_the_range(self):
        self.came(GREATEST, 0, GREATEST - 1, 1)
        self.came([-9], 0, GREATEST, 1)
        self.came([-9], 0, GREATEST, GREATEST)
        self.came(-GREATEST, 0, -GREATEST + 1, -1)
        self.came([-9], 0, -GREATEST, -1)
        self.came(GREATEST, 1, GREATEST - 1, -1)
        self.came([-9], 1, GREATEST, -1)
        self.came(-GREATEST, 1, 1 - GREATEST, 1)
        self.came([-9], 1, -GREATEST, 1)
        self.came(0, 1, GREATEST, GREATEST)
        root = 256 ** 2048
        self.came([-9], 2, root, root)
        self.came([-9], 2, root, -root)
        self.came((root - 1) * (root + 1), 2, root - 1, root + 1)
        self.came(GREATEST, 2, root - 1, root + 1)
        self.came(-GREATEST, 2, 1 - root, root + 1)
        self.came([-9], 2, GREATEST, 2)
        self.came(-GREATEST, 2, GREATEST, -1)
        self.came(0, 2, GREATEST, 0)

    def test_the_lesser_and_the_greater(self):
        for a in [*SMALL, *LARGE]:
            for b in [*SMALL, *LARGE]:
                self.came(a if order(row_of_number(a), row_of_number(b)) != [2] else b, 5, a, b)
                self.came(a if order(row_of_number(a), row_of_number(b)) != [1] else b, 6, a, b)


class Quotients(NumberCase):
    def test_each_pair_of_signs(self):
        for a, b, quotient, left in ((7, 2, 3, 1), (-7, 2, -4, 1), (7, -2, -4, -1), (-7, -2, 3, -1), (6, 2, 3, 0),
                                     (-6, 2, -3, 0), (6, -2, -3, 0), (-6, -2, 3, 0), (0, 5, 0, 0), (0, -5, 0, 0),
                                     (1, 5, 0, 1), (-1, 5, -1, 4), (1, -5, -1, -4), (-1, -5, 0, -1), (5, 5, 1, 0),
                                     (-5, 5, -1, 0)):
            self.came(quotient, 3, a, b)
            self.came(left, 4, a, b)

    def test_what_is_rounded_down_makes_a_again(self):
        for a in [*SMALL, *LARGE]:
            for b in [*SMALL, *LARGE]:
                if b != 0:
                    quotient, left = a // b, a - b * (a // b)
                    self.assertTrue(0 <= left < b or b < left <= 0)
                    self.came(quotient, 3, a, b)
                    self.came(left, 4, a, b)

    def test_by_0(self):
        for a in [*SMALL, *LARGE]:
            self.came([-4], 3, a, 0)
            self.came([-4], 4, a, 0)


class Powers(NumberCase):
    def test_small_ones(self):
        for a in (-7, -3, -2, -1, 0, 1, 2, 3, 7, 10, 255, 256):
            for b in range(12):
                self.came(a ** b, 7, a, b)
        self.came(1, 7, 0, 0)

    def test_below_0(self):
        for a in [*SMALL, *LARGE]:
            for b in (-1, -2, -256, -GREATEST):
                self.came([-4], 7, a, b)

    def test_of_0_1_and_below(self):
        for b in (1, 2, 3, 32768, 2 ** 64, 10 ** 18, GREATEST - 1, GREATEST):
            self.came(0, 7, 0, b)
            self.came(1, 7, 1, b)
            self.came(-1 if b % 2 else 1, 7, -1, b)
        for a in [*SMALL, *LARGE]:
            self.came(1, 7, a, 0)
            self.came(a, 7, a, 1)

    def test_just_within_and_just_out_of_range(self):
        self.came(2 ** 32767, 7, 2, 32767)
        self.came(-2 ** 32767, 7, -2, 32767)
        self.came([-9], 7, 2, 32768)
        self.came([-9], 7, -2, 32769)
        self.came(256 ** 4095, 7, 256, 4095)
        self.came([-9], 7, 256, 4096)
        for a in (3, -3, 5, 7, 10, 100, 255, 257, 1000, 2 ** 64 - 1, 10 ** 100, 256 ** 2048 - 1, 256 ** 1365):
            b = 1
            while abs(a) ** (b * 2) <= GREATEST:
                b *= 2
            while abs(a) ** (b + 1) <= GREATEST:
                b += max(1, (32768 - (a ** b).bit_length()) // (a.bit_length() + 1))
            self.came(a ** b, 7, a, b)
            self.came([-9], 7, a, b + 1)
            self.came([-9], 7, a, b + 2)
        self.came((256 ** 2048 - 1) ** 2, 7, 256 ** 2048 - 1, 2)
        self.came([-9], 7, 256 ** 2048, 2)

    def test_far_out_of_range(self):
        for a in (2, -2, 3, 10, 256, GREATEST, -GREATEST):
            for b in (32768, 65536, 10 ** 6, 10 ** 18, 2 ** 64, GREATEST):
                self.came([-9], 7, a, b)
        self.came([-9], 7, GREATEST, 2)
        self.came(GREATEST, 7, GREATEST, 1)


class Roots(NumberCase):
    def test_small_ones(self):
        for a in range(300):
            self.came(math.isqrt(a), 8, a, 0)

    def test_of_squares_and_their_neighbours(self):
        for root in (1, 2, 3, 10, 255, 256, 2 ** 32, 10 ** 30 + 7, 256 ** 1000 - 1, 256 ** 2047, 256 ** 2048 - 1):
            self.came(root, 8, root * root, 5)
            self.came(root - 1, 8, root * root - 1, -5)
            self.came(root, 8, root * root + 1, 0)
            self.came(root, 8, root * root + 2 * root, 0)

    def test_of_the_greatest(self):
        self.came(256 ** 2048 - 1, 8, GREATEST, 0)

    def test_below_0(self):
        for a in (-1, -4, -GREATEST):
            self.came([-4], 8, a, 0)
            self.came([-4], 8, a, 7)

    def test_b_is_not_looked_at_but_a_number(self):
        for b in [*SMALL, *LARGE]:
            self.came(3, 8, 15, b)
            self.came([-4], 8, -15, b)
        for b in NO_NUMBERS:
            self.check([-5], number, 8, row_of_number(16), b)
            self.check([-5], number, 8, row_of_number(-16), b)


class Divisors(NumberCase):
    def test_each_pair(self):
        for a in [*SMALL, *LARGE, 12, 18, -12, 90]:
            for b in [*SMALL, *LARGE, 12, 18, -12, 90]:
                self.came(math.gcd(a, b), 9, a, b)

    def test_with_0(self):
        self.came(0, 9, 0, 0)
        for a in (1, -1, 5, -5, GREATEST, -GREATEST):
            self.came(abs(a), 9, a, 0)
            self.came(abs(a), 9, 0, a)

    def test_where_it_takes_longest(self):
        a, b = 1, 1
        while a + b <= GREATEST:
            a, b = a + b, a
        self.came(1, 9, a, b)
        self.came(1, 9, b, -a)
        common = 256 ** 2000 - 1
        self.came(common, 9, common * 3 ** 500, -common * 2 ** 900)


class AtRandom(NumberCase):
    def test_each_operation(self):
        source = random.Random(50)
        for turn in range(120):
            bits = [source.choice([1, 8, 64, 500, 16000, 32768]) for turn in range(2)]
            a, b = [source.choice([-1, 1]) * source.getrandbits(many) for many in bits]
            self.came(a + b, 0, a, b)
            self.came(a - b, 1, a, b)
            self.came(a * b, 2, a, b)
            self.came(a // b if b else [-4], 3, a, b)
            self.came(a % b if b else [-4], 4, a, b)
            self.came(min(a, b), 5, a, b)
            self.came(max(a, b), 6, a, b)
            self.came(math.isqrt(a) if a >= 0 else [-4], 8, a, b)
            self.came(math.gcd(a, b), 9, a, b)


class Refused(NumberCase):
    def test_no_operation(self):
        for op in NO_OPERATIONS:
            self.check([-1], number, op, row_of_number(5), row_of_number(7))
            self.check([-1], number, op, NO, YES)
            for wrong in NO_VALUES:
                self.check([-1], number, op, wrong, row_of_number(7))
                self.check([-1], number, op, row_of_number(7), wrong)
                self.check([-1], number, op, wrong, wrong)

    def test_no_number(self):
        for op in OPERATIONS:
            for wrong in NO_NUMBERS:
                self.check([-5], number, op, wrong, row_of_number(7))
                self.check([-5], number, op, row_of_number(7), wrong)
                self.check([-5], number, op, wrong, wrong)

    def test_no_values_bytes(self):
        for op in OPERATIONS:
            for wrong in NO_VALUES:
                self.check([-6], number, op, wrong, row_of_number(7))
                self.check([-6], number, op, row_of_number(7), wrong)
                self.check([-6], number, op, wrong, NO)
                self.check([-6], number, op, NO, wrong)

    def test_in_the_order_told(self):
        self.check([-5], number, 3, NO, row_of_number(0))
        self.check([-5], number, 7, NO, row_of_number(-1))
        self.check([-5], number, 8, row_of_number(-1), NO)
        self.check([-4], number, 7, row_of_number(GREATEST), row_of_number(-GREATEST))

    def test_numbers_that_are_too_long_are_no_values(self):
        for told in (8194, 8195):
            row = [2] + making.vary(told) + [1] * (told // 2)
            self.check([-6], number, 0, row, row_of_number(0))
        self.check([-6], number, 0, [2, 4, 5, 0], row_of_number(0))


if __name__ == "__main__":
    unittest.main()
