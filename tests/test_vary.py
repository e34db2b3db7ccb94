import unittest

import making
from onevalues.values import unvary, vary

HIGHEST = 2 ** 32 - 1
# Each number with which another byte is taken, with the bytes of it and of the one before.
STEPS = [
    (2 ** 7, [128, 1], [127]),
    (2 ** 14, [128, 128, 1], [255, 127]),
    (2 ** 21, [128, 128, 128, 1], [255, 255, 127]),
    (2 ** 28, [128, 128, 128, 128, 1], [255, 255, 255, 127]),
]
NUMBERS = [0, 1, 2, 100, 126, 127, 128, 129, 255, 256, 257, 300, 16382, 16383, 16384, 16385, 65535, 65536, 2097150,
           2097151, 2097152, 2097153, 268435454, 268435455, 268435456, 268435457, 2 ** 31 - 1, 2 ** 31, HIGHEST - 1,
           HIGHEST]


class Vary(making.CallCase):
    def test_written_out(self):
        self.check([0, 0], vary, 0)
        self.check([0, 1], vary, 1)
        self.check([0, 172, 2], vary, 300)
        self.check([0, 255, 255, 255, 255, 15], vary, HIGHEST)
        self.check([0, 254, 255, 255, 255, 15], vary, HIGHEST - 1)

    def test_where_another_byte_is_taken(self):
        for amount, row, before in STEPS:
            self.check([0] + before, vary, amount - 1)
            self.check([0] + row, vary, amount)
            self.check([0, row[0] + 1] + row[1:], vary, amount + 1)

    def test_out_of_range(self):
        for amount in (-1, -2, -128, -2 ** 32, -10 ** 18, HIGHEST + 1, HIGHEST + 2, 2 ** 33, 2 ** 35, 2 ** 63, 10 ** 18):
            self.check([-1], vary, amount)

    def test_there_and_back(self):
        for amount in [*NUMBERS, *range(0, 70000, 37), *range(2 ** 32 - 1, 2 ** 31, -98765431)]:
            row = self.answer(vary, amount)
            self.assertEqual(row, [0] + making.vary(amount))
            self.check([0, amount, len(row) - 1], unvary, row[1:])


class Unvary(making.CallCase):
    def test_alone_and_with_bytes_behind(self):
        for amount in NUMBERS:
            row = making.vary(amount)
            for behind in ([], [0], [1], [127], [128], [255], [255] * 10, row, [0] * 100):
                self.check([0, amount, len(row)], unvary, row + behind)

    def test_no_bytes(self):
        self.check([-6], unvary, [])

    def test_they_end_too_soon(self):
        for byte in (128, 129, 200, 255):
            for many in (1, 2, 3, 4):
                self.check([-6], unvary, [byte] * many)
        for amount in NUMBERS:
            row = making.vary(amount)
            for many in range(1, len(row)):
                self.check([-6], unvary, row[:many])

    def test_a_last_byte_of_0_behind_others(self):
        for byte in (128, 129, 255):
            for many in (1, 2, 3, 4):
                self.check([-6], unvary, [byte] * many + [0])
                self.check([-6], unvary, [byte] * many + [0, 1])
        self.check([0, 0, 1], unvary, [0, 0])

    def test_bit_7_set_in_many(self):
        for byte in (128, 129, 143, 255):
            for many in (4, 5, 6, 7, 100):
                self.check([-6], unvary, [byte] * many)
            for many in (5, 6, 7, 100):
                for behind in (0, 1, 15, 127):
                    self.check([-6], unvary, [byte] * many + [behind])
        self.check([0, 2 ** 28, 5], unvary, [128, 128, 128, 128, 1])

    def test_five_bytes(self):
        self.check([0, HIGHEST, 5], unvary, [255, 255, 255, 255, 15])
        self.check([-6], unvary, [128, 128, 128, 128, 16])
        self.check([-6], unvary, [129, 128, 128, 128, 16])
        self.check([-6], unvary, [255, 255, 255, 255, 31])
        self.check([-6], unvary, [255, 255, 255, 255, 127])
        self.check([0, 15 * 2 ** 28, 5], unvary, [128, 128, 128, 128, 15])
        for last in range(256):
            told = [0, last * 2 ** 28, 5] if 1 <= last <= 15 else [-6]
            self.check(told, unvary, [128, 128, 128, 128, last])

    def test_each_of_two_bytes(self):
        for first in range(256):
            for second in range(256):
                if first < 128:
                    told = [0, first, 1]
                elif 1 <= second <= 127:
                    told = [0, first - 128 + second * 128, 2]
                else:
                    told = [-6]
                self.assertEqual(unvary([first, second]), told)

    def test_65536_bytes(self):
        for byte in range(256):
            self.check([0, byte, 1] if byte < 128 else [-6], unvary, [byte] * 65536)
        for amount in NUMBERS:
            row = making.vary(amount)
            self.check([0, amount, len(row)], unvary, row + [255] * (65536 - len(row)))

    def test_it_may_have_any_length(self):
        self.assertEqual(unvary([172, 2] + [0] * 20000000), [0, 300, 2])


if __name__ == "__main__":
    unittest.main()
