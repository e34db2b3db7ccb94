import unittest

import making
from making import NO, long_record, pair, some_bytes, some_list, some_text, vary
from onevalues.values import about, judge, member

LONGEST = 65536
BEHIND_COUNT = LONGEST - 4
SAME_BYTES_FAULTS = {0: [8, 1], 1: [8, 1], 2: [8, 3], 3: [8, 5], 4: [8, 6], 5: [7, 128], 6: [7, 576], 7: [8, 9],
                     8: [8, 33]}


def long_list():
    return [5] + vary(BEHIND_COUNT) + [1] * BEHIND_COUNT


class Long(making.CallCase):
    def test_a_list(self):
        row = long_list()
        self.assertEqual(len(row), LONGEST)
        self.check([0], judge, row)
        self.check([0, 5, BEHIND_COUNT, 2], about, row)
        self.check([0, 0, 0, 4, 1], member, 0, row)
        self.check([0, 0, 0, LONGEST - 1, 1], member, BEHIND_COUNT - 1, row)
        self.check([-4], member, BEHIND_COUNT, row)

    def test_a_list_with_faults(self):
        row = long_list()
        self.check([-6, 2, LONGEST - 1], judge, row[:-1] + [9])
        self.check([-6, 1, LONGEST - 1], judge, row[:-1])
        self.check([-6, 8, LONGEST - 1], judge, [5] + vary(BEHIND_COUNT - 1) + [1] * BEHIND_COUNT)

    def test_a_record(self):
        row = long_record()
        self.assertEqual(len(row), LONGEST - 1)
        self.check([0], judge, row)
        self.check([0, 6, 10922, 2], about, row)
        self.check([0, 4, 4, 8, 1], member, 0, row)
        self.check([0, LONGEST - 6, 4, LONGEST - 2, 1], member, 10921, row)
        self.check([-4], member, 10922, row)
        self.check([-6, 6, LONGEST - 7], judge, row[:-2] + [97, 0])

    def test_bytes(self):
        row = some_bytes([255] * BEHIND_COUNT)
        self.assertEqual(len(row), LONGEST)
        self.check([0], judge, row)
        self.check([0, 3, BEHIND_COUNT, 1], about, row)
        self.check([-4], member, 0, row)
        self.check([-6, 1, LONGEST - 1], judge, row[:-1])

    def test_texts(self):
        for scalar in ("a", "\u00e4", "\U0001f600"):
            words = scalar * (BEHIND_COUNT // len(scalar.encode()))
            row = some_text(words.encode())
            self.assertEqual(len(row), LONGEST)
            self.check([0], judge, row)
            self.check([0, 4, BEHIND_COUNT, 1], about, row)
            self.check([-6, 5, LONGEST - 1], judge, row[:-1] + [255])

    def test_lists_within_lists(self):
        self.check([-6, 7, 128], judge, [5, 1] * 32768)
        self.check([-6], about, [5, 1] * 32768)
        self.check([-6], member, 0, [5, 1] * 32768)
        self.check([-6, 7, 256], judge, [6, 1, 1, 97] * 16384)

    def test_many_lists_as_deep_as_may_be(self):
        deepest = making.within(62, NO)
        row = some_list(*[deepest] * 500)
        self.check([0], judge, row)
        self.check([0, 5, 500, 64], about, row)
        self.check([0, 0, 0, len(row) - 125, 125], member, 499, row)

    def test_a_count_that_never_comes(self):
        row = [5] + vary(2 ** 32 - 1) + [5, 0] * 32765
        self.check([-6, 1, LONGEST], judge, row)
        self.check([-6, 1, 65535], judge, [3] + vary(2 ** 32 - 1) + [0] * 65529)

    def test_rows_of_one_byte_alone(self):
        for byte in range(256):
            kind_and_place = SAME_BYTES_FAULTS.get(byte, [2, 0])
            self.check([-6] + kind_and_place, judge, [byte] * LONGEST)


class Together(making.CallCase):
    def test_calls_keep_nothing_from_one_another(self):
        right = some_list(NO, some_list(NO))
        wrong = making.record(pair("b", NO), pair("a", NO))
        for turn in range(3):
            self.check([0, 5, 2, 3], about, right)
            self.check([-6, 6, 5], judge, wrong)
            self.check([-6], about, wrong)
            self.check([0], judge, right)
            self.check([0, 0, 0, 3, 3], member, 1, right)


if __name__ == "__main__":
    unittest.main()
