import unittest

import making
from making import four_letters, in_tens, long_record, number, some_bytes, some_text, vary, within
from onevalues.values import order, read, text

LONGEST = 65536
GREATEST = 256 ** 4096 - 1


class LongCase(making.CallCase):
    def there_and_back(self, row, told):
        signs = list(told.encode())
        self.check([0] + signs, text, row)
        self.check([0] + row, read, signs)

    def fault(self, kind, place, told):
        self.check([-6, kind, place], read, list(told.encode()))


class LongValues(LongCase):
    """Values whose bytes are as many as may be handed in; their texts may be longer."""

    def test_a_list(self):
        many = LONGEST - 4
        row = [5] + vary(many) + [1] * many
        self.assertEqual(len(row), LONGEST)
        self.there_and_back(row, "[" + "yes, " * (many - 1) + "yes]")

    def test_a_record(self):
        row = long_record()
        self.there_and_back(row, "{" + ", ".join(name + ": no" for name in four_letters(10922)) + "}")

    def test_bytes(self):
        row = some_bytes([i * 7 % 256 for i in range(LONGEST - 4)])
        self.there_and_back(row, 'x"' + bytes(row[4:]).hex() + '"')

    def test_a_text_of_quoted_signs(self):
        for sign, told in (("\x1f", "\\u{1f}"), ("\"", "\\\""), ("\\", "\\\\"), ("\n", "\\n"), ("\u20ac", "\u20ac")):
            many = (LONGEST - 4) // len(sign.encode())
            self.there_and_back(some_text((sign * many).encode()), '"' + told * many + '"')

    def test_numbers_of_4096_bytes(self):
        row = [5, 15] + number(GREATEST) * 15
        self.there_and_back(row, "[" + ", ".join([in_tens(GREATEST)] * 15) + "]")
        row = [5, 15] + number(-GREATEST) * 15
        self.there_and_back(row, "[" + ", ".join([in_tens(-GREATEST)] * 15) + "]")

    def test_many_lists_as_deep_as_may_be(self):
        many = (LONGEST - 3) // 125
        row = [5] + vary(many) + within(62, [0]) * many
        self.there_and_back(row, "[" + ", ".join(["[" * 62 + "no" + "]" * 62] * many) + "]")


class LongTexts(LongCase):
    """Texts as long as may be handed in, right and wrong."""

    def test_a_list(self):
        told = "[" + ", ".join(["no"] * 16383) + "]"
        self.check([0, 5] + vary(16383) + [0] * 16383, read, list(told.encode()))
        self.fault(8, len(told), told + " ")
        self.fault(1, len(told) - 1, told[:-1])
        self.fault(2, len(told) - 1, told[:-1] + "}")
        told = "[" + ", ".join(["@0"] * 16383) + "]"
        self.check([0, 5] + vary(16383) + ([7] + [0] * 8) * 16383, read, list(told.encode()))

    def test_a_record(self):
        told = "{" + ", ".join(name + ": 0" for name in four_letters(7281)) + "}"
        self.assertLessEqual(len(told), LONGEST)
        self.check([0, 6] + vary(7281) + sum(([4] + list(name.encode()) + [2, 0] for name in four_letters(7281)), []),
                   read, list(told.encode()))
        self.fault(6, len(told) + 1, told[:-1] + ", aaaa: 0}")
        self.fault(1, len(told) + 5, told[:-1] + ", aaaa")

    def test_bytes_and_texts(self):
        self.check([0] + some_bytes([171] * 32766), read, list(('x"' + "ab" * 32766 + '"').encode()))
        self.fault(1, LONGEST, 'x"' + "ab" * 32767)
        self.fault(2, LONGEST - 1, 'x"' + "ab" * 32766 + 'a"')
        self.check([0] + some_text([97] * 65534), read, [34] + [97] * 65534 + [34])
        self.fault(1, LONGEST, '"' + "a" * 65535)
        self.fault(1, LONGEST, '"a' + "\\\"" * 32767)
        self.fault(2, LONGEST - 1, '"' + "a" * 65534 + "\n")
        self.check([0] + some_text([31] * 10922), read, list(('"' + "\\u{1f}" * 10922 + '"').encode()))

    def test_very_many_figures(self):
        for ahead in ("", "-", "@", "@-"):
            self.fault(4, 0, ahead + "9" * (LONGEST - len(ahead)))
            self.fault(4, 0, ahead + "1" + "0" * (LONGEST - len(ahead) - 1))
        self.fault(2, 1, "0" * LONGEST)
        self.fault(4, 1, "[" + "7" * (LONGEST - 1))
        self.fault(8, 64 + 1, "#" + "7" * (LONGEST - 1))
        self.fault(2, 6, '"\\u{1' + "1" * (LONGEST - 5))

    def test_lists_within_lists(self):
        self.fault(7, 64, "[" * LONGEST)
        self.fault(7, 256, "{a: " * 16384)
        self.fault(7, 160, "[{a: " * 13107)
        self.fault(7, 316, "[[], " * 13107)
        self.fault(2, 0, "]" * LONGEST)

    def test_a_very_long_name(self):
        self.fault(6, 1, "{" + "a" * 65530 + ": no}")
        self.fault(1, LONGEST, "{" + "a" * 65535)
        self.fault(6, 1, '{"' + "A" * 65500 + '": no}')

    def test_rows_of_one_byte_alone(self):
        places = {34: [8, 2], 35: [2, 1], 45: [2, 1], 48: [2, 1], 64: [2, 1], 91: [7, 64], 110: [2, 1], 120: [2, 1],
                  121: [2, 1], 123: [2, 1]}
        for byte in range(256):
            kind_and_place = [4, 0] if 49 <= byte <= 57 else places.get(byte, [2, 0])
            self.check([-6] + kind_and_place, read, [byte] * LONGEST)


class LongOrder(making.CallCase):
    def both_ways(self, first, second):
        self.check([1], order, first, second)
        self.check([2], order, second, first)
        self.check([0], order, first, list(first))

    def test_lists(self):
        many = LONGEST - 4
        row = [5] + vary(many) + [0] * many
        self.both_ways(row, row[:-1] + [1])
        self.both_ways([5] + vary(many - 1) + [0] * (many - 1), row)
        self.both_ways(row, [5, 1, 1])

    def test_records(self):
        row = long_record()
        self.both_ways(row, row[:-1] + [1])
        self.both_ways(row, row[:-2] + [row[-2] + 1, 0])
        self.both_ways([6] + vary(10921) + row[3:-6], row)

    def test_bytes_and_texts(self):
        for make in (some_bytes, some_text):
            self.both_ways(make([97] * (LONGEST - 4)), make([97] * (LONGEST - 5) + [98]))
            self.both_ways(make([97] * (LONGEST - 5)), make([97] * (LONGEST - 4)))
            self.both_ways(make([97] * (LONGEST - 4)), make([98]))

    def test_numbers(self):
        row = [5, 15] + number(GREATEST) * 15
        self.both_ways([5, 15] + number(GREATEST) * 14 + number(GREATEST - 1), row)
        self.both_ways([5, 15] + number(-GREATEST) * 15, [5, 15] + number(-GREATEST) * 14 + number(1 - GREATEST))

    def test_lists_as_deep_as_may_be(self):
        many = (LONGEST - 3) // 125
        row = [5] + vary(many) + within(62, [0]) * many
        self.both_ways(row, row[:-1] + [1])
        self.check([-6], order, [5, 1] * 32768, [0])
        self.check([-6], order, [0], [5, 1] * 32768)


class TooLong(unittest.TestCase):
    """A value of 16,777,216 bytes and one of a byte more; each is read once only, since it takes its time."""

    def test_what_would_be_too_long(self):
        moments = ", ".join(["@0"] * 1864134)
        told = list(("[" + moments + ", no" * 6 + "]").encode())
        row = read(told)
        self.assertEqual(len(row), 1 + 16777216)
        self.assertEqual(row[:14], [0, 5] + vary(1864140) + [7] + [0] * 8)
        self.assertEqual(read(told[:-1] + list(b", no]")), [-6, 9, 0])
        # It is looked at last.
        self.assertEqual(read(told[:-1] + list(b", no]]")), [-6, 8, len(told) + 4])


if __name__ == "__main__":
    unittest.main()
