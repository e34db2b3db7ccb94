import unittest

import making
from making import NO, YES, identity, moment, number, pair, record, some_bytes, some_list, text, within
from onevalues.values import about


class About(making.CallCase):
    def test_atoms(self):
        self.check([0, 0, 0, 1], about, NO)
        self.check([0, 1, 0, 1], about, YES)
        for amount in (0, 5, -5, 256 ** 4096 - 1):
            self.check([0, 2, 0, 1], about, number(amount))
        self.check([0, 7, 0, 1], about, moment(-1))
        self.check([0, 8, 0, 1], about, identity(range(32)))

    def test_bytes_and_texts(self):
        for length in (0, 1, 127, 128, 20000):
            self.check([0, 3, length, 1], about, some_bytes([1] * length))
            self.check([0, 4, length, 1], about, text("a" * length))

    def test_a_texts_size_is_that_of_its_utf8(self):
        self.check([0, 4, 10, 1], about, text("a\u00e4\u20ac\U0001f600"))

    def test_lists(self):
        self.check([0, 5, 0, 1], about, some_list())
        self.check([0, 5, 1, 2], about, some_list(NO))
        self.check([0, 5, 3, 2], about, some_list(NO, some_list(), text("abc")))
        self.check([0, 5, 200, 2], about, some_list(*[YES] * 200))

    def test_records(self):
        self.check([0, 6, 0, 1], about, record())
        self.check([0, 6, 1, 2], about, record(pair("a", number(1))))
        self.check([0, 6, 2, 3], about, record(pair("a", some_list(NO)), pair("b", NO)))

    def test_depth_is_that_of_the_deepest(self):
        self.check([0, 5, 3, 4], about, some_list(some_list(NO), within(2, YES), NO))
        self.check([0, 5, 3, 5], about, some_list(within(3, YES), within(1, NO), NO))
        self.check([0, 6, 2, 4], about, record(pair("a", NO), pair("b", within(2, record()))))
        for levels in range(64):
            self.check([0, 5 if levels else 0, 1 if levels else 0, levels + 1], about, within(levels, NO))
        self.check([0, 5, 1, 64], about, within(63, some_list()))

    def test_no_values_bytes(self):
        for row in ([], [9], [3, 128, 0], [2, 1], [4, 1, 255], [6, 1, 0], within(64, NO), [0, 0]):
            self.check([-6], about, row)


if __name__ == "__main__":
    unittest.main()
