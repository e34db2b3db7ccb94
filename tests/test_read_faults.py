import unittest

import making
from making import NO, YES, in_tens, number, pair, record, some_list, text, within
from onevalues.values import read

GREATEST = 256 ** 4096 - 1
FAR_BEYOND = "9" * 20000
# Each way in which a value's text may begin, whole, with the places at which its beginnings are values themselves.
FORMS = [("no", []), ("yes", []), ("0", []), ("907", [1, 2]), ("-907", [2, 3]), ('x"00ff"', []), ('"a\\"\\\\\\n"', []),
         ('"\\u{0}\\u{b}\\u{1f}\\u{7f}"', []), ('"\u00e4\u20ac\U0001f600"', []), ("[]", []), ("[no, [yes, 10]]", []),
         ("{}", []), ('{"A": no, b_1: {c: -5}, "\u00e4": []}', []), ("@0", []), ("@-12", [3]), ("@12", [2]),
         ("#" + "0f" * 32, [])]


def row_of(told):
    return list(told.encode() if isinstance(told, str) else told)


def unmarked(told):
    """The place of the mark, and the row without it."""
    row = row_of(told)
    place = row.index(ord("|"))
    return place, row[:place] + row[place + 1:]


class FaultCase(making.CallCase):
    def fault(self, kind, place, told):
        self.check([-6, kind, place], read, row_of(told))

    def marked(self, kind, told):
        """The fault at the place that is marked."""
        place, row = unmarked(told)
        self.fault(kind, place, row)

    def marked_anywhere(self, kind, told):
        place, row = unmarked(told)
        self.fault_anywhere(kind, place, row)

    def fault_anywhere(self, kind, place, told):
        """The fault at the front, within a list, a record, and deep within; place None: where the bytes end."""
        row = row_of(told)
        for before in ("", "[", "[no, ", "{a: ", "{\"A\": [1, 2], b: ", "[" * 63, "{a: " * 63, "[{a: [\"\\n\", " * 21):
            ahead = row_of(before)
            self.fault(kind, len(ahead) + (len(row) if place is None else place), ahead + row)

    def right(self, value, told):
        self.check([0] + value, read, row_of(told))


class EndsTooSoon(FaultCase):
    def test_nothing(self):
        self.fault_anywhere(1, 0, "")

    def test_at_every_place_of_every_form(self):
        for told, whole in FORMS:
            row = row_of(told)
            for end in range(len(row)):
                if end not in whole:
                    self.fault(1, end, row[:end])
                # In a list that is not closed what's whole ends too soon as well.
                for before in ("[", "{aa: [no, ", "[" * 60):
                    self.fault(1, len(before) + end, row_of(before) + row[:end])

    def test_between_members(self):
        for told in ("[no", "[no,", "[no, ", "[no, yes", "[[]", "[[],", "[5", "{", "{a", "{a1_", "{a:", "{a: ",
                     "{a: no", "{a: no,", "{a: no, ", "{a: no, b", '{"', '{"A', '{"A"', '{"A":', '{"A": ',
                     '{"A": no, "', "[" * 64, "{a: " * 63 + "{"):
            self.fault(1, len(told), told)

    def test_within_a_scalar_value(self):
        for scalar in ("\u00e4", "\u0800", "\u20ac", "\ud7ff", "\U00010000", "\U0010ffff"):
            row = scalar.encode()
            for end in range(1, len(row)):
                self.fault_anywhere(1, None, b'"' + row[:end])
                self.fault(1, end + 3, b'{"a' + row[:end])

    def test_behind_a_backslash(self):
        for told in ('"\\', '"\\u', '"\\u{', '"\\u{0', '"\\u{1', '"\\u{1f', '"\\u{7', '"\\u{7f', '"\\u{b', '"\\\\\\',
                     '"a\\"'):
            self.fault_anywhere(1, None, told)


class WrongSign(FaultCase):
    def test_what_begins_no_value(self):
        begins = b'nyx"[{@#-0123456789'
        for byte in range(256):
            if byte not in begins:
                self.fault(2, 0, [byte])
                self.fault(2, 4, row_of("{a: ") + [byte, byte])
                self.fault(2, 5, row_of("[no, ") + [byte])
                if byte != 93:
                    self.fault(2, 1, [91, byte])

    def test_words(self):
        for told in ("n|O", "n|a", "n| o", "y|o", "y|Es", "ye| ", "ye|t", "y|]"):
            self.marked_anywhere(2, told)

    def test_great_letters_begin_nothing(self):
        for told in ("No", "YES", "X\"00\"", "True", "false", "+1", ".5", "'a'", "(", "\ufeffno", "\u00e4"):
            self.fault_anywhere(2, 0, told)

    def test_noughts_that_neednt_be(self):
        for told, place in (("00", 1), ("01", 1), ("000", 1), ("09", 1), ("-0", 1), ("-01", 1), ("-00", 1), ("@00", 2),
                            ("@01", 2), ("@-0", 2), ("@-01", 2), ("0" * 100, 1), ("0" + FAR_BEYOND, 1)):
            self.fault_anywhere(2, place, told)

    def test_a_minus(self):
        for told in ("-|-1", "-|a", "-| 1", "-|]", "@-|-1", "@| 1", "@|a", "@|+1", "@|@1", "@|x"):
            self.marked_anywhere(2, told)

    def test_behind_a_number(self):
        for told in ("[5|a", "[5| ", "[5|.", "[5|-", "[-5|x", "[0|x", "[5|e3", "{a: 5|]", "[@5|a", "[@5|@", "[5|}"):
            self.marked(2, told)

    def test_bytes(self):
        for told in ("x|'", "x|0", "x| ", 'x"0|"', 'x"0|g', 'x"|g', 'x"0|A"', 'x"|A0"', 'x"|F', 'x"| 00', 'x"00| 11"',
                     'x"00|,', 'x"0|/', 'x"0|:', 'x"0|`', 'x"|/', 'x"|:', 'x"|`', 'x"|\\', 'x"00|\xe4'):
            self.marked_anywhere(2, told)

    def test_ids(self):
        figures = "0123456789abcdef" * 4
        for place in (0, 1, 2, 31, 62, 63):
            for wrong in "AFg/:`\" ]-":
                self.fault_anywhere(2, place + 1, "#" + figures[:place] + wrong + figures[place + 1:])
        self.fault(2, 66, "[#" + figures + "0]")
        self.fault(8, 65, "#" + figures + "0")

    def test_signs_that_a_text_cant_hold_as_they_are(self):
        for byte in [*range(0x20), 0x7F]:
            self.fault_anywhere(2, 1, [34, byte, 34])
            self.fault_anywhere(2, 3, [34, 97, 97, byte])
            self.fault(2, 3, [123, 34, 65, byte])

    def test_behind_a_backslash(self):
        for byte in range(256):
            if byte not in b'"\\nu':
                self.fault(2, 2, [34, 92, byte, 34])
        for told in ('"\\N', '"\\U', '"\\t', '"\\r', '"\\0', '"\\x', '"\\/', '"\\ ', '"\\]'):
            self.fault_anywhere(2, 2, told)

    def test_the_number_of_a_sign(self):
        for told in ('"\\u|0', '"\\u|7f"', '"\\u|(', '"\\u|"', '"\\u{|}', '"\\u{| ', '"\\u{|g', '"\\u{|"', '"\\u{|-1}',
                     '"\\u{|B}', '"\\u{|F}', '"\\u{1|F}', '"\\u{7|F}', '"\\u{1| }', '"\\u{1|"', '"\\u{1|g', '"\\u{1f|"',
                     '"\\u{1f| '):
            self.marked_anywhere(2, told)

    def test_noughts_behind_it(self):
        for told in ("00", "01", "0a", "0b", "000", "00a", "07f", "0f", "001f"):
            self.fault_anywhere(2, 5, '"\\u{' + told + '}"')

    def test_numbers_that_have_a_form_of_their_own_or_stand_as_they_are(self):
        # The place is that of the first figure with which no number that is told so goes on.
        for scalar in range(0x400):
            told = format(scalar, "x")
            if scalar == 0x0A or 0x20 <= scalar != 0x7F:
                if told[0] == "a":
                    place = 0
                elif told[0] == "1" or told[:2] == "7f":
                    place = 2
                else:
                    place = 1
                self.fault(2, 4 + place, '"\\u{' + told + '}"')
        for told, place in (("a", 0), ("20", 1), ("22", 1), ("5c", 1), ("7e", 1), ("80", 1), ("41", 1), ("7f0", 2),
                            ("100", 2), ("10ffff", 2), ("d800", 1), ("110000", 2), ("a" * 50, 0), ("1" * 50, 2)):
            self.fault_anywhere(2, 4 + place, '"\\u{' + told + '}"')

    def test_a_blank_too_many(self):
        for told in ("| no", "[| no]", "[no| ]", "[no| , no]", "[no, | no]", "[| ]", "{| }", "{| a: no}", "{a| : no}",
                     "{a: | no}", "{a: no| }", "{a: no| , b: no}", "{a: no, | b: no}", '{"A"| : no}', "[|\nno]",
                     "[no,|\nno]", "[no,|\tno]"):
            self.marked(2, told)
        self.fault(8, 2, "no ")
        self.fault(8, 2, "no\n")

    def test_a_blank_too_few(self):
        for told in ("[no,|no]", "[no,|]", "{a:|no}", "{a: no,|b: no}", '{"A":|no}', "[no,|,"):
            self.marked(2, told)

    def test_between_members(self):
        for told in ("[|,", "[|, no]", "[no, |]", "[no, |, ", "[no|;", "[no|}", "[|}", "{|]", "[no| no", "[no|[",
                     "{a: no|]", "{a: no, |}", "{a: |}", "{a|}", "{a|, b}", "{|: no}", "{a|= no}", "{a: no|; ",
                     "{a:|: no", "[no|: ", "{a: no|: "):
            self.marked(2, told)

    def test_what_begins_no_name(self):
        for byte in range(256):
            if not (97 <= byte <= 122 or byte == 34):
                self.fault(2, 8, row_of("{a: no, ") + [byte])
                if byte != 125:
                    self.fault(2, 1, [123, byte])

    def test_what_ends_a_name(self):
        for byte in range(256):
            if not (97 <= byte <= 122 or 48 <= byte <= 57 or byte in b"_:"):
                self.fault(2, 4, row_of("{ab0") + [byte])
            if byte != 58:
                self.fault(2, 5, row_of('{"AB') + [34, byte])

    def test_names_told_as_texts_though_they_neednt_be(self):
        for name in ("a", "z", "abc", "a0", "a_", "no", "x1_y", "a" * 255, "a" * 256, "a" * 1000):
            self.fault(2, 1, '{"' + name + '": no}')
            self.fault(2, 1, '{"' + name + '"')
            self.fault(2, 10, '{"A": no, "' + name + '": no}')
            self.fault(2, 8, '{z: no, "' + name + '": no}')
            self.fault(2, 63, "[" * 62 + '{"' + name + '": no}')

    def test_a_needless_text_is_seen_when_the_name_is_whole(self):
        self.fault(1, 4, '{"ab')
        self.fault(2, 4, '{"ab\n": no}')
        self.fault(5, 4, b'{"ab\xff": no}')
        self.fault(2, 1, '{"ab"')
        self.fault(2, 1, '{"ab"x')


class OutOfRange(FaultCase):
    def test_numbers(self):
        for amount in (GREATEST + 1, GREATEST + 2, 10 ** 9865 - 1, 10 ** 9865, 256 ** 4097):
            self.fault_anywhere(4, 0, in_tens(amount))
            self.fault_anywhere(4, 0, in_tens(-amount))
        self.right(number(GREATEST), in_tens(GREATEST))
        self.right(number(-GREATEST), in_tens(-GREATEST))

    def test_moments(self):
        for amount in (2 ** 63, 2 ** 63 + 1, -2 ** 63 - 1, 10 ** 19, -10 ** 19, 2 ** 64, -2 ** 64, 10 ** 30, GREATEST):
            self.fault_anywhere(4, 0, "@" + in_tens(amount))

    def test_far_beyond(self):
        for told in (FAR_BEYOND, "-" + FAR_BEYOND, "@" + FAR_BEYOND, "@-" + FAR_BEYOND, "1" + "0" * 30000):
            self.fault_anywhere(4, 0, told)

    def test_it_is_seen_when_the_last_figure_has_been(self):
        for told in (FAR_BEYOND, "-" + FAR_BEYOND, "@9223372036854775808", "@-9223372036854775809"):
            for behind in ("", " ", "a", "]", ", ", ",x", "\xff", "."):
                self.fault(4, 0, told + behind)
                self.fault(4, 1, "[" + told + behind)
                self.fault(4, 4, "{a: " + told + behind)
        self.fault(8, 20, "@9223372036854775807 ")
        self.fault(2, 21, "[@9223372036854775807 ")


class WrongUtf8(FaultCase):
    def test_bytes_that_begin_no_scalar_value(self):
        for byte in [*range(0x80, 0xC2), *range(0xF5, 0x100)]:
            self.fault_anywhere(5, 1, [34, byte, 34])
            self.fault(5, 4, [34, 97, 98, 99, byte])
            self.fault(5, 2, [123, 34, byte])

    def test_bytes_with_which_none_goes_on(self):
        for row, place in (([0xC2, 34], 1), ([0xC2, 0x7F], 1), ([0xDF, 0xC0], 1), ([0xC3, 92], 1), ([0xC3, 10], 1),
                           ([0xE0, 0x9F], 1), ([0xE0, 0xA0, 34], 2), ([0xE1, 0x80, 0xC0], 2), ([0xED, 0xA0], 1),
                           ([0xEF, 0xBF, 0x7F], 2), ([0xF0, 0x8F], 1), ([0xF0, 0x90, 0x7F], 2),
                           ([0xF0, 0x90, 0x80, 34], 3), ([0xF4, 0x90], 1), ([0xF4, 0x8F, 0xBF, 0xC0], 3),
                           ([0xC3, 0xA4, 0xA4], 2)):
            self.fault_anywhere(5, 1 + place, [34] + row + [34])
            self.fault(5, 3 + place, [34, 97, 97] + row + [34])
            self.fault(5, 2 + place, [123, 34] + row + [34])

    def test_where_no_text_is_such_bytes_just_cant_stand_there(self):
        for byte in (0x80, 0xC3, 0xFF):
            self.fault_anywhere(2, 0, [byte])
            self.fault(2, 1, [123, byte])
            self.fault(2, 2, [34, 92, byte])
            self.fault(2, 4, [34, 92, 117, 123, byte])
            self.fault(2, 2, [120, 34, byte])
            self.fault(8, 2, [110, 111, byte])


class WrongName(FaultCase):
    def test_no_bytes(self):
        self.fault(6, 1, '{"": no}')
        self.fault(6, 1, '{""')
        self.fault(6, 1, '{""x')
        self.fault(6, 8, '{a: no, "": no}')
        self.fault(6, 10, '{"A": no, ""')

    def test_255_and_256_bytes(self):
        for sign in ("a", "A", "\u00e4"):
            bare = sign == "a"
            name = "A" * (255 % len(sign.encode())) + sign * (255 // len(sign.encode()))
            told = name if bare else '"' + name + '"'
            self.right(record(pair(name, NO)), "{" + told + ": no}")
            longer = name + "a"
            told = longer if bare else '"' + longer + '"'
            self.fault(6, 1, "{" + told + ": no}")
            self.fault(6, 10, '{"0": no, ' + told + ": no}")

    def test_how_long_it_is_counts_not_how_long_it_is_told(self):
        self.right(record(pair("\0" * 255, NO)), '{"' + "\\u{0}" * 255 + '": no}')
        self.fault(6, 1, '{"' + "\\u{0}" * 256 + '": no}')
        self.right(record(pair("\"" * 255, NO)), '{"' + "\\\"" * 255 + '": no}')
        self.fault(6, 1, '{"' + "\\\"" * 256 + '"')
        self.fault(6, 1, '{"' + "\u20ac" * 86 + '"')

    def test_very_long_names(self):
        for length in (256, 1000, 40000):
            self.fault(6, 1, "{" + "a" * length + ":")
            self.fault(6, 1, '{"' + "A" * length + '"')
            self.fault(1, length + 1, "{" + "a" * length)
            self.fault(1, length + 2, '{"' + "A" * length)

    def test_the_same_twice(self):
        for told in ("{a: no, |a: no}", '{"A": no, |"A": no}', '{"\\n": no, |"\\n": no}', "{abc: [1], |abc: no}",
                     "{a: no, b: no, |b: no}", '{"\u00e4": no, |"\u00e4"', "{a: {a: no}, |a: no}"):
            self.marked(6, told)

    def test_names_that_fall(self):
        for told in ("{b: no, |a: no}", "{ab: no, |a: no}", "{a0: no, |a: no}", '{a: no, |"A": no}',
                     '{a: no, |"_": no}', '{a: no, |"Z"', '{"\u00e4": no, |a: no}', '{"\u00e4": no, |"~": no}',
                     "{a: no, c: yes, |b: no}",
                     '{"A": no, "C": yes, |"B": no}', '{"\u20ac": no, |"\u00e4": no}', '{"B ": no, |"B": no}',
                     '{"\\u{1}": no, |"\\u{0}": no}', '{"A": no, |"\\n": no}'):
            self.marked(6, told)

    def test_names_rise_by_what_they_are_not_by_how_they_are_told(self):
        self.right(record(pair("\n", NO), pair("A", NO)), '{"\\n": no, "A": no}')
        self.right(record(pair("\x1f", NO), pair(" ", NO), pair("\"", NO), pair("#", NO)),
                   '{"\\u{1f}": no, " ": no, "\\"": no, "#": no}')
        self.right(record(pair("Z", NO), pair("a", NO), pair("\u00e4", NO)), '{"Z": no, a: no, "\u00e4": no}')

    def test_deep_within_and_behind_another_record(self):
        self.marked(6, "[" * 62 + "{a: no, |a: no}")
        self.marked(6, "[{z: no}, {b: no, |a: no}]")
        self.marked(6, "{y: {a: no}, z: {b: no, |b: no}}")
        self.marked(6, "{m: {z: 1}, |a: no}")
        self.right(some_list(record(pair("z", NO)), record(pair("a", NO))), "[{z: no}, {a: no}]")
        self.right(record(pair("m", record(pair("z", NO))), pair("n", record(pair("a", NO)))),
                   "{m: {z: no}, n: {a: no}}")
        self.right(record(pair("b", record(pair("a", NO), pair("z", YES))), pair("c", NO)),
                   "{b: {a: no, z: yes}, c: no}")

    def test_a_name_that_stands_as_it_is_is_looked_at_at_the_byte_behind_it(self):
        self.fault(1, 9, "{b: no, a")
        self.fault(6, 8, "{b: no, a:")
        self.fault(6, 8, "{b: no, a ")
        self.fault(6, 8, "{b: no, a!")
        self.fault(6, 8, b"{b: no, a\xff")
        self.fault(2, 9, "{b: no, c!")
        self.fault(6, 1, "{" + "a" * 256 + "!")
        self.fault(2, 256, "{" + "a" * 255 + "!")

    def test_a_name_that_is_told_as_a_text_at_its_last_quote(self):
        self.fault(1, 10, '{b: no, "A')
        self.fault(6, 8, '{b: no, "A"')
        self.fault(6, 8, '{b: no, "A"!')
        self.fault(2, 10, '{b: no, "A\n"')
        self.fault(5, 10, b'{b: no, "A\xff"')


class TooDeep(FaultCase):
    def test_lists_and_records(self):
        self.fault(7, 64, "[" * 65)
        self.fault(7, 64, "[" * 64 + "{")
        self.fault(7, 64, "[" * 64 + "[" + "]" * 65)
        self.fault(7, 256, "{a: " * 64 + "{")
        self.fault(7, 256, "{a: " * 64 + "no")
        self.right(within(63, [5, 0]), "[" * 64 + "]" * 64)
        self.right(within(63, [6, 0]), "[" * 63 + "{}" + "]" * 63)

    def test_each_first_byte_of_a_value(self):
        for told in ("no", "yes", "0", "-1", 'x""', '""', "[]", "{}", "@1", "#" + "00" * 32, "n", "y", "x", '"', "@",
                     "#", "-", "nope", "-0", "00", "x ", '"\n', FAR_BEYOND):
            self.fault(7, 64, "[" * 64 + told)
            self.fault(7, 256, "{a: " * 64 + told)
            self.marked(7, "[[], " * 63 + "[|" + told)

    def test_what_begins_no_value_is_2_first(self):
        for told in (" ", "}", ",", "a", "N", "\\", "+", ":", "\n", "\xff"):
            self.fault(2, 64, "[" * 64 + told)
            self.fault(2, 256, "{a: " * 64 + told)
        self.fault(2, 256, "{a: " * 64 + "]")
        self.fault(1, 64, "[" * 64)
        self.fault(1, 256, "{a: " * 64)

    def test_names_are_looked_at_before_the_values_that_are_too_deep(self):
        self.fault(2, 64, "[" * 63 + "{" + " ")
        self.fault(6, 64, "[" * 63 + '{"": no}')
        self.fault(2, 64, "[" * 63 + '{"a": no}')
        self.fault(7, 67, "[" * 63 + "{a: no}")
        self.fault(2, 66, "[" * 63 + "{a:no}")

    def test_a_later_member(self):
        told = "[" * 63 + "[]" + ", [no"
        self.fault(7, 63 + 2 + 3, told)
        self.right([5, 1] * 62 + [5, 2, 5, 0, 5, 0], "[" * 63 + "[], []" + "]" * 63)


class BytesBehind(FaultCase):
    def test_behind_each_form(self):
        for told, whole in FORMS:
            row = row_of(told)
            for byte in (0, 10, 32, 44, 93, 97, 125, 255):
                self.fault(8, len(row), row + [byte])
                self.fault(8, len(row), row + [byte] * 5)

    def test_figures(self):
        self.fault(8, 2, "10 ")
        self.fault(8, 2, "10a")
        self.fault(8, 1, "0a")
        self.fault(8, 1, "0-")
        self.fault(8, 2, "no1")
        self.fault(8, 3, '"a" "')
        self.fault(8, 3, '"a""')

    def test_two_values(self):
        for told in ("no| yes", "no|, yes", "[]|[]", "[]|]", "{}|}", "no|yes", 'x""|"', "[[]]|]", "no|no"):
            self.marked(8, told)


class TheFirstFromTheFront(FaultCase):
    def test_two_faults(self):
        for kind, told in ((2, "[|N, " + FAR_BEYOND), (4, "[|" + FAR_BEYOND + ", N"), (6, "{b: no, |a: N"),
                           (2, "{b: |N, a: no}"), (2, "[0|1, @9223372036854775808]"),
                           (4, "[|@9223372036854775808, 01]"), (6, '{"b c": no, |"A": [01], "": no}'),
                           (2, '{"b c": no, c:|01, a: no}'),
                           (6, "{b: 12, |a: {c: 1, b: 2}}"), (6, "{a: {c: 1, |b: 2}, a: no}"),
                           (5, b'["\xc3|", N]'), (7, "[" * 64 + "|[" + "N")):
            self.marked(kind, told)

    def test_a_fault_and_then_the_end(self):
        for kind, place, told in ((2, 0, "N"), (2, 1, "[N"), (2, 1, "00"), (2, 4, '"\\u{a'), (5, 2, b'"\xc3"'),
                                  (6, 1, '{""'), (6, 8, '{a: no, "A"'), (7, 64, "[" * 65), (4, 1, "[" + FAR_BEYOND),
                                  (2, 1, '{"a"')):
            self.fault(kind, place, told)

    def test_a_fault_and_then_bytes_behind(self):
        self.fault(2, 1, "[N] no")
        self.fault(6, 1, '{"": no} no')
        self.fault(4, 0, FAR_BEYOND + " no")

    def test_utf8_and_what_cant_stand_there(self):
        self.fault(5, 2, b'"\xc3\n"')
        self.fault(2, 1, b'"\n\xff"')
        self.fault(5, 1, b'"\xff\n"')
        self.fault(2, 2, b'"\\\xc3\xa4"')

    def test_a_needless_text_comes_before_6(self):
        self.fault(2, 8, '{b: no, "a": no}')
        self.fault(2, 8, '{a: no, "a": no}')
        self.fault(2, 1, '{"' + "a" * 256 + '": no}')
        self.fault(6, 1, '{"' + "a" * 255 + 'A": no}')

    def test_a_name_of_either_way_before_what_is_behind_it(self):
        self.fault(6, 8, "{b: no, a:no}")
        self.fault(6, 8, '{b: no, "A":no}')
        self.fault(6, 8, "{b: no, a: N}")
        self.fault(2, 8, '{b: no, "c":no}')

    def test_right_texts_are_read(self):
        self.right(text("\""), '"\\""')
        self.right(record(pair("a", NO), pair("b", YES)), "{a: no, b: yes}")


if __name__ == "__main__":
    unittest.main()
