import random
import unittest

import making
from making import (NO, NO_VALUES, YES, identity, in_tens, made, moment, number, pair, record, some_bytes, some_list,
                    text, vary, within)
from onevalues.values import text as text_call
from onevalues.values import read

GREATEST = 256 ** 4096 - 1


class TextCase(making.CallCase):
    def told(self, words, row):
        """That this is the value's text, and that what is read of it is the value."""
        signs = list(words.encode())
        self.check([0] + signs, text_call, row)
        self.check([0] + row, read, signs)


class Atoms(TextCase):
    def test_no_and_yes(self):
        self.told("no", NO)
        self.told("yes", YES)

    def test_numbers(self):
        for amount in (0, 1, 5, 9, 10, 99, 100, 127, 128, 255, 256, 1000, 65535, 65536, 10 ** 17, 10 ** 18 - 1,
                       10 ** 18, 10 ** 18 + 1, 10 ** 19, 10 ** 36 - 1, 10 ** 36, 10 ** 36 + 10 ** 18, 2 ** 63, 2 ** 64,
                       10 ** 100):
            self.told(str(amount), number(amount))
            if amount > 0:
                self.told("-" + str(amount), number(-amount))

    def test_numbers_with_noughts_within(self):
        self.told("1000000000000000000000000000000000001", number(10 ** 36 + 1))
        self.told("-70000000000000000000", number(-7 * 10 ** 19))

    def test_numbers_of_many_bytes(self):
        for amount in (10 ** 4299, 10 ** 4300, 10 ** 9864, 256 ** 4095 - 1, 256 ** 4095, GREATEST - 1, GREATEST):
            self.told(in_tens(amount), number(amount))
            self.told(in_tens(-amount), number(-amount))
        self.assertEqual(len(number(GREATEST)), 4099)
        self.assertEqual(len(in_tens(GREATEST)), 9865)

    def test_bytes(self):
        self.told('x""', some_bytes([]))
        self.told('x"00"', some_bytes([0]))
        self.told('x"0a10ff"', some_bytes([10, 16, 255]))
        every = list(range(256))
        self.told('x"' + bytes(every).hex() + '"', some_bytes(every))

    def test_texts(self):
        self.told('""', text(""))
        self.told('"no"', text("no"))
        self.told('"a b, [c]: {d} @e #f x"', text("a b, [c]: {d} @e #f x"))

    def test_signs_that_have_their_own_form(self):
        self.told('"\\""', text("\""))
        self.told('"\\\\"', text("\\"))
        self.told('"\\n"', text("\n"))
        self.told('"\\u{0}\\u{9}\\u{b}\\u{f}\\u{10}\\u{1a}\\u{1f}\\u{7f}"', text("\x00\x09\x0b\x0f\x10\x1a\x1f\x7f"))
        self.told('"\\\\n\\\\u{7f}\\\\\\""', text("\\n\\u{7f}\\\""))

    def test_each_of_the_first_scalar_values(self):
        for scalar in range(0x180):
            sign = chr(scalar)
            if sign == "\"" or sign == "\\":
                told = "\\" + sign
            elif sign == "\n":
                told = "\\n"
            elif scalar < 0x20 or scalar == 0x7F:
                told = "\\u{" + hex(scalar)[2:] + "}"
            else:
                told = sign
            self.told('"' + told + '"', text(sign))
            self.told('"a' + told + told + 'f0"', text("a" + sign + sign + "f0"))

    def test_scalar_values_of_one_to_four_bytes(self):
        for sign in ("\x20", "\x7e", "\x80", "\x9f", "\u00a0", "\u07ff", "\u0800", "\u2028", "\ud7ff", "\ue000",
                     "\ufeff", "\uffff", "\U00010000", "\U0001f600", "\U0010ffff"):
            self.told('"' + sign + '"', text(sign))
            self.told('"\\n' + sign * 3 + '\\""', text("\n" + sign * 3 + "\""))

    def test_moments(self):
        for amount in (-2 ** 63, 1 - 2 ** 63, -256, -1, 0, 1, 255, 256, 10 ** 18, 2 ** 63 - 2, 2 ** 63 - 1):
            self.told("@" + str(amount), moment(amount))

    def test_ids(self):
        for row in ([0] * 32, list(range(32)), list(range(224, 256)), [255] * 32):
            self.told("#" + bytes(row).hex(), identity(row))


class ListsAndRecords(TextCase):
    def test_lists(self):
        self.told("[]", some_list())
        self.told("[no]", some_list(NO))
        self.told('[no, yes, 5, -5, "a", x"61", @5]', some_list(NO, YES, number(5), number(-5), text("a"),
                                                                some_bytes([97]), moment(5)))
        self.told("[[], [[]], [[], []]]", some_list(some_list(), some_list(some_list()),
                                                    some_list(some_list(), some_list())))
        self.told("[" + "no, " * 299 + "no]", some_list(*[NO] * 300))

    def test_records(self):
        self.told("{}", record())
        self.told("{a: no}", record(pair("a", NO)))
        self.told("{a: no, b: yes}", record(pair("a", NO), pair("b", YES)))
        self.told("{a: {}, b: {c: [], d: {}}}",
                  record(pair("a", record()), pair("b", record(pair("c", some_list()), pair("d", record())))))

    def test_names_that_stand_as_they_are(self):
        for name in ("a", "z", "no", "yes", "x", "n", "a0", "a9", "a_", "a__b", "abcdefghijklmnopqrstuvwxyz_0123456789",
                     "a" * 255):
            self.told("{" + name + ": no}", record(pair(name, NO)))

    def test_names_that_dont(self):
        for name, told in (("A", "A"), ("aB", "aB"), ("Z", "Z"), ("_", "_"), ("_a", "_a"), ("0", "0"), ("0a", "0a"),
                           ("9", "9"), (" ", " "), ("a ", "a "), ("a b", "a b"), ("a-b", "a-b"), ("a.", "a."),
                           ("a:", "a:"), ("`", "`"), ("{", "{"), ("a/", "a/"), ("a@", "a@"), ("a[", "a["), ("a^", "a^"),
                           ("a`", "a`"), ("a{", "a{"), ("\"", "\\\""), ("a\"", "a\\\""), ("\\", "\\\\"),
                           ("a\n", "a\\n"), ("\0", "\\u{0}"), ("a\x7f", "a\\u{7f}"), ("\u00e4", "\u00e4"),
                           ("a\u00e4", "a\u00e4"),
                           ("\u20ac", "\u20ac"), ("\U0001f600", "\U0001f600"), ("A" * 255, "A" * 255),
                           ("\0" * 255, "\\u{0}" * 255)):
            self.told('{"' + told + '": yes}', record(pair(name, YES)))

    def test_names_of_both_ways_in_one_record(self):
        self.told('{"0": 0, "A": 1, "_": 2, a: 3, "a ": 4, a0: 5, aa: 6, "\u00e4": 7}',
                  record(*[pair(name, number(i)) for i, name in enumerate(["0", "A", "_", "a", "a ", "a0", "aa",
                                                                           "\u00e4"])]))

    def test_nested(self):
        self.told('{a: [1, {b: [2, "{"]}, []], c: {"D": no}}',
                  record(pair("a", some_list(number(1), record(pair("b", some_list(number(2), text("{")))),
                                             some_list())),
                         pair("c", record(pair("D", NO)))))

    def test_as_deep_as_may_be(self):
        self.told("[" * 63 + "no" + "]" * 63, within(63, NO))
        self.told("[" * 64 + "]" * 64, within(63, some_list()))
        self.told("[" * 63 + "{}" + "]" * 63, within(63, record()))
        self.told("{a: " * 63 + "-1" + "}" * 63, [6, 1, 1, 97] * 63 + number(-1))
        self.told("{a: [" * 31 + '"A"' + "]}" * 31, [6, 1, 1, 97, 5, 1] * 31 + text("A"))


class LongerVaryingNumbers(TextCase):
    """Where how many there are takes another byte."""

    def test_each_kind_that_tells_how_many(self):
        for many in (126, 127, 128, 129, 255, 256, 257, 16383, 16384):
            self.told('x"' + "ab" * many + '"', some_bytes([171] * many))
            self.told('"' + "a" * many + '"', text("a" * many))
            self.told("[" + ", ".join(["no"] * many) + "]", [5] + vary(many) + [0] * many)

    def test_names(self):
        for length in (126, 127, 128, 129, 254, 255):
            self.told("{" + "a" * length + ": no}", record(pair("a" * length, NO)))
            self.told('{"' + "A" * length + '": no}', record(pair("A" * length, NO)))

    def test_records(self):
        for many in (127, 128, 129):
            told = making.four_letters(many)
            self.told("{" + ", ".join(name + ": no" for name in told) + "}", record(*[pair(name, NO) for name in told]))

    def test_numbers(self):
        for length in (62, 63, 64, 65, 127, 128, 129):
            self.told(str(256 ** length - 1), number(256 ** length - 1))
            self.told(str(-256 ** length), number(-256 ** length))


class NoValue(making.CallCase):
    def test_no_values_bytes(self):
        for row in NO_VALUES:
            self.check([-6], text_call, row)


class ThereAndBack(unittest.TestCase):
    def test_many_values(self):
        source = random.Random(7)
        second = making.SecondJudge()
        rows = {}
        for turn in range(4000):
            row = made(source, source.randrange(1, 7))
            told = text_call(row)
            self.assertEqual(bytes(told[1:]).decode(), making.text_of(second.judge(row)))
            self.assertEqual(read(told[1:]), [0] + row)
            self.assertEqual(rows.setdefault(tuple(told), row), row)
        self.assertGreater(len(rows), 2000)


if __name__ == "__main__":
    unittest.main()
