import itertools
import random
import unittest

import making
from making import made
from onevalues.values import judge, read, text

SIGNS = list(b'noyesx"0123456789abcfgzA_-@#[]{}:, \\u\n\0\x7f\x80\xc3\xa4\xe2\x82\xac\xff')


def texts(source, how_many, levels):
    return [text(made(source, source.randrange(1, levels)))[1:] for turn in range(how_many)]


class AgainstSecondReader(unittest.TestCase):
    @classmethod
    def setUpClass(cls):
        cls.second = making.SecondReader()

    def same(self, row):
        expected = self.second.told(row)
        told = read(row)
        if told != expected:
            self.assertEqual(told, expected, bytes(row))
        if told[0] == 0:
            self.assertEqual(judge(told[1:]), [0], bytes(row))
            self.assertEqual(text(told[1:]), [0] + row)
        return told

    def all_of(self, signs, most, before=b"", behind=b""):
        for length in range(most + 1):
            for row in itertools.product(signs, repeat=length):
                self.same(list(before) + list(row) + list(behind))

    def test_all_rows_of_at_most_two_bytes(self):
        self.all_of(range(256), 2)

    def test_all_short_texts_of_few_signs(self):
        self.all_of(b"[], 1", 6)
        self.all_of(b"n0o-9@", 5)
        self.all_of(b'x"0fF', 5, b"[")

    def test_all_short_records_of_few_signs(self):
        self.all_of(b'a1:, }"', 5, b"{")
        self.all_of(b'ab1"_A', 4, b'{"AA": no, aa: no, ', b": yes}")
        self.all_of(b'ab"\\n', 5, b'{"A": no, ', b": yes}")
        self.all_of(b'ab"A: ', 4, b"{aa: no, ")

    def test_all_that_may_stand_behind_a_backslash(self):
        self.all_of(b'u{017afF}"\\n', 4, b'"\\', b'"')
        self.all_of(b"0123456789abcdefgF}", 3, b'"\\u{', b'}"')

    def test_scalar_values(self):
        edges = [0x22, 0x5C, 0x7F, 0x80, 0x8F, 0x90, 0x9F, 0xA0, 0xBF, 0xC0, 0xC2, 0xDF, 0xE0, 0xED, 0xEF, 0xF0, 0xF4,
                 0xF5]
        self.all_of(edges, 3, b'"')
        self.all_of(edges, 2, b'{"', b'": no}')
        self.all_of([0x22, 0x7F, 0x80, 0x90, 0xBF, 0xC0], 3, b'"\xf0')
        self.all_of([0x22, 0x7F, 0x80, 0x8F, 0x90, 0xBF], 3, b'"\xf4')

    def test_numbers_round_the_ends_of_their_ranges(self):
        for amount in (2 ** 63, 256 ** 4096, 10 ** 9864):
            for near in range(-2, 3):
                for sign in ("", "-"):
                    told = list((sign + making.in_tens(amount + near)).encode())
                    self.same(told)
                    self.same([64] + told)
                    self.same([91] + told + [93])

    def test_texts_and_what_is_spoilt(self):
        source = random.Random(8)
        kinds = set()
        for row in texts(source, 2500, 6):
            self.assertEqual(self.same(row)[0], 0)
            for again in range(6):
                place = source.randrange(len(row))
                sign = source.choice(SIGNS)
                other = source.choice([row[:place] + [sign] + row[place + 1:], row[:place] + [sign] + row[place:],
                                       row[:place] + row[place + 1:], row[:place] + row[place + source.randrange(9):],
                                       row[:place] + row[source.randrange(len(row)):]])
                told = self.same(other)
                kinds.add(0 if told[0] == 0 else told[1])
        self.assertLessEqual({0, 1, 2, 5, 6, 8}, kinds)

    def test_rows_of_any_signs(self):
        source = random.Random(9)
        for turn in range(30000):
            self.same([source.choice(SIGNS) for sign in range(source.randrange(1, 12))])

    def test_spoilt_texts_deep_within(self):
        source = random.Random(10)
        for row in texts(source, 300, 4):
            for ahead in (b"[" * 60, b"[" * 61, b"[" * 62, b"{a: " * 63, b'{"A": ' * 64, b"[no, " * 64):
                self.same(list(ahead) + row)
                self.same(list(ahead) + row[:source.randrange(len(row))] + [source.choice(SIGNS)])


class Beginnings(unittest.TestCase):
    """What is said of the first fault, held against the beginnings of many texts that are right."""

    @classmethod
    def setUpClass(cls):
        cls.texts = texts(random.Random(11), 3000, 6)
        cls.beginnings = {bytes(row[:end]) for row in cls.texts for end in range(len(row) + 1)}

    def test_a_beginning_ends_too_soon_or_is_a_value(self):
        for row in self.texts[:600]:
            for end in range(len(row)):
                told = read(row[:end])
                if told[0] == 0:
                    self.assertIn(row[0], b"-@0123456789")
                else:
                    self.assertEqual(told, [-6, 1, end], bytes(row[:end]))

    def spoilt(self, seed):
        """Texts with a sign changed, each with the fault, where the place is that of a sign that can't stand there."""
        source = random.Random(seed)
        for row in self.texts:
            place = source.randrange(len(row))
            other = row[:place] + [source.choice(SIGNS)] + row[place + 1:]
            told = read(other)
            needless_text = told[:2] == [-6, 2] and other[told[2]] == 34
            if told[0] != 0 and told[1] in (2, 5, 7, 8) and not needless_text:
                yield other[:told[2] + 1], other[told[2] + 1:], told

    def test_no_text_goes_on_behind_a_fault(self):
        for ahead, behind, told in self.spoilt(12):
            self.assertNotIn(bytes(ahead), self.beginnings)
            # Without the sign that can't stand there it ends too soon, or is whole.
            before = read(ahead[:-1])
            self.assertTrue(before[0] == 0 or before == [-6, 1, len(ahead) - 1], bytes(ahead))

    def test_what_comes_behind_the_first_fault_changes_nothing(self):
        for ahead, behind, told in self.spoilt(13):
            for other in ([], behind[1:], behind + [0], [34] * 3, [93, 125]):
                self.assertEqual(read(ahead + other), told)


if __name__ == "__main__":
    unittest.main()
