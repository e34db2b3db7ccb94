import unittest

import making
from making import NO, YES, identity, moment, number, pair, record, some_bytes, some_list, text, vary, within
from onevalues.values import judge


class JudgeRight(making.CallCase):
    def right(self, row):
        self.check([0], judge, row)

    def test_bytes_as_the_document_tells_them(self):
        rows = [
            [0], [1],
            [2, 0], [2, 2, 1], [2, 3, 1], [2, 2, 255], [2, 4, 0, 1], [2, 5, 255, 255],
            [3, 0], [3, 3, 0, 255, 7],
            [4, 0], [4, 2, 97, 98],
            [5, 0], [5, 2, 0, 1],
            [6, 0], [6, 2, 1, 97, 0, 1, 98, 1],
            [7, 0, 0, 0, 0, 0, 0, 0, 0], [7, 255, 255, 255, 255, 255, 255, 255, 255],
            [8] + [0] * 32, [8] + list(range(32)),
        ]
        for row in rows:
            with self.subTest(row=row):
                self.right(row)

    def test_numbers(self):
        for amount in (0, 1, 127, 128, 255, 256, 65535, 65536, 256 ** 63 - 1, 256 ** 63, 256 ** 4095, 256 ** 4096 - 1):
            self.right(number(amount))
            self.right(number(-amount))

    def test_a_number_of_0_and_of_4096_bytes(self):
        self.right([2, 0])
        self.right([2] + vary(8192) + [0] * 4095 + [1])
        self.right([2] + vary(8193) + [0] * 4095 + [255])

    def test_a_numbers_bytes_but_the_last_may_be_0(self):
        self.right([2, 6, 0, 0, 1])

    def test_bytes_may_be_any(self):
        self.right(some_bytes(range(256)))
        for length in (0, 1, 127, 128, 255, 256, 16383, 16384):
            self.right(some_bytes([255] * length))

    def test_texts(self):
        for scalar in (0, 0x22, 0x7F, 0x80, 0x7FF, 0x800, 0xFFF, 0x1000, 0xD7FF, 0xE000, 0xFFFE, 0xFFFF,
                       0x10000, 0x3FFFF, 0x40000, 0xFFFFF, 0x100000, 0x10FFFF):
            self.right(text(chr(scalar)))
            self.right(text("a" + chr(scalar) * 2 + "b"))

    def test_lists(self):
        self.right(some_list())
        self.right(some_list(some_list(), some_list(NO, some_list(YES)), number(-5), text("x")))
        for length in (127, 128, 300):
            self.right(some_list(*[NO] * length))

    def test_records(self):
        self.right(record())
        self.right(record(pair("a", record(pair("a", NO))), pair("b", some_list(record())), pair("c", YES)))

    def test_names_of_1_and_of_255_bytes(self):
        self.right(record(pair("a", NO)))
        self.right(record(pair("a" * 127, NO), pair("a" * 128, NO), pair("a" * 255, NO)))
        self.right(record(pair("\u20ac" * 85, YES)))

    def test_names_rise_by_their_bytes(self):
        names = ["\0", "A", "Z", "a", "a\0", "aa", "ab", "b", "\x7f", "\x80", "\u07ff", "\u0800", "\uffff",
                 "\U00010000", "\U0010ffff"]
        self.right(record(*[pair(name, NO) for name in names]))

    def test_the_same_name_again_in_another_record(self):
        self.right(some_list(record(pair("b", NO)), record(pair("a", NO))))
        self.right(record(pair("b", record(pair("a", NO), pair("b", YES))), pair("c", NO)))

    def test_moments_and_ids(self):
        for amount in (0, 1, -1, 2 ** 63 - 1, -2 ** 63):
            self.right(moment(amount))
        self.right(identity([255] * 32))

    def test_a_value_64_deep(self):
        self.right(within(63, NO))
        self.right(within(63, some_list()))
        self.right(within(63, record()))
        self.right([6, 1, 1, 97] * 63 + [2, 0])
        self.right(some_list(within(62, NO), within(62, identity([1] * 32)), NO))


if __name__ == "__main__":
    unittest.main()
