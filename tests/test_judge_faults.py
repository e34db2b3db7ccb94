import unittest

import making
from making import (NO, YES, identity, moment, number, pair, record, some_bytes, some_list, some_text, text, vary,
                    within)
from onevalues.values import judge


class JudgeFaults(making.CallCase):
    def fault(self, kind, place, row):
        """The row's fault, also where the row stands deep within."""
        self.check([-6, kind, place], judge, row)
        for front in ([5, 1], [5, 3, 0, 1], [6, 1, 1, 97], [6, 2, 1, 97, 0, 2, 98, 99], [5, 1] * 40):
            with self.subTest(front=front):
                self.check([-6, kind, place + len(front)], judge, front + row)

    def fault_at_front(self, kind, place, row):
        self.check([-6, kind, place], judge, row)


class EndsTooSoon(JudgeFaults):
    def test_no_bytes(self):
        self.fault(1, 0, [])

    def test_each_beginning_of_a_value(self):
        values = [number(300), number(-1), some_bytes([1, 2, 3]), text("a\u20ac\U0001f600"),
                  some_list(NO, number(7), YES), record(pair("a", NO), pair("b", text("x"))), moment(-2),
                  identity(range(32)), some_bytes([9] * 130), within(10, some_list(NO, YES))]
        for value in values:
            for length in range(len(value)):
                self.fault_at_front(1, length, value[:length])

    def test_fewer_are_left_than_told(self):
        self.fault(1, 3, [2, 4, 1])
        self.fault(1, 2, [3, 1])
        self.fault(1, 7, [3] + vary(2 ** 32 - 1) + [0])
        self.fault(1, 3, [4, 2, 97])
        self.fault(1, 4, [6, 1, 2, 97])
        self.fault(1, 8, [7] + [0] * 7)
        self.fault(1, 32, [8] + [0] * 31)

    def test_fewer_are_left_before_they_are_looked_at(self):
        self.fault(1, 3, [4, 2, 255])
        self.fault(1, 4, [6, 1, 2, 255])
        self.fault(1, 3, [2, 4, 0])
        self.fault(1, 6, [6, 2, 1, 98, 0, 2])
        self.fault(1, 7, [6, 2, 1, 98, 0, 2, 97])

    def test_within_a_varying_number(self):
        for kind in (2, 3, 4, 5, 6):
            self.fault(1, 1, [kind])
            self.fault(1, 2, [kind, 128])
            self.fault(1, 5, [kind, 255, 255, 255, 255])
        self.fault(1, 4, [6, 1, 128, 128])

    def test_a_list_whose_members_are_said_to_be_many(self):
        self.fault(1, 8, [5] + vary(2 ** 32 - 1) + [0, 1])
        self.fault(1, 6, [6] + vary(2 ** 32 - 1))
        self.fault(1, 9, [6] + vary(2 ** 32 - 1) + [1, 97, 0])
        self.fault(2, 7, [5] + vary(2 ** 32 - 1) + [0, 9])
        self.fault(6, 6, [6] + vary(2 ** 32 - 1) + [0])


class WrongKind(JudgeFaults):
    def test_kinds_above_8(self):
        for kind in (9, 10, 127, 128, 255):
            self.fault(2, 0, [kind])
            self.fault(2, 0, [kind, 0, 0])
            self.fault(2, 3, [5, 2, 0, kind])
            self.fault(2, 4, [6, 1, 1, 97, kind])


class WrongVarying(JudgeFaults):
    def varying(self, place, told):
        for kind in (2, 3, 4, 5, 6):
            self.fault(3, 1 + place, [kind] + told)
            self.fault(3, 1 + place, [kind] + told + [255, 255])
        self.fault(3, 2 + place, [6, 1] + told)
        self.fault(3, 5 + place, [6, 2, 1, 97, 0] + told)

    def test_a_last_byte_0(self):
        for told in ([128, 0], [255, 0], [128, 128, 0], [129, 128, 128, 0], [255, 255, 255, 255, 0]):
            self.varying(0, told)

    def test_above_the_highest(self):
        for told in ([128, 128, 128, 128, 16], [255, 255, 255, 255, 31], [255, 255, 255, 255, 127]):
            self.varying(0, told)

    def test_the_highest_is_one(self):
        self.fault(1, 6, [3, 255, 255, 255, 255, 15])
        self.fault(1, 6, [3, 128, 128, 128, 128, 1])

    def test_no_end_in_five_bytes(self):
        for told in ([128] * 5, [255] * 5, [129, 128, 128, 128, 128], [128] * 5 + [1], [128] * 5 + [0], [255] * 9):
            self.varying(0, told)


class WrongNumber(JudgeFaults):
    def test_more_than_4096_bytes(self):
        for told in (8194, 8195, 8196, 2 ** 32 - 2, 2 ** 32 - 1):
            self.fault(4, 0, [2] + vary(told))
        self.fault(4, 0, [2] + vary(8194) + [0] * 4096 + [1])

    def test_4096_bytes_are_not_too_many(self):
        self.fault(1, 3, [2] + vary(8192))
        self.fault(1, 3, [2] + vary(8193))

    def test_a_last_byte_0(self):
        self.fault(4, 0, [2, 2, 0])
        self.fault(4, 0, [2, 3, 0])
        self.fault(4, 0, [2, 6, 1, 2, 0])
        self.fault(4, 0, [2] + vary(8192) + [1] * 4095 + [0])

    def test_0_below_0(self):
        self.fault(4, 0, [2, 1])
        self.fault(4, 0, [2, 1, 0])


class WrongUtf8(JudgeFaults):
    def no_utf8(self, place, row):
        """The place counts from the row's first byte; "ab" stands before it, and bytes behind the text."""
        self.fault(5, 2 + place, some_text(row) + [1])
        self.fault(5, 4 + place, some_text([97, 98] + row) + [1])
        self.fault(5, 3 + place, record(pair(row, NO)))
        self.fault(5, 5 + place, record(pair([97, 98] + row, NO)))

    def test_a_byte_with_which_no_utf8_begins(self):
        for byte in (0x80, 0xBF, 0xC0, 0xC1, 0xF5, 0xF8, 0xFE, 0xFF):
            self.no_utf8(0, [byte])
            self.no_utf8(0, [byte, 0x80])
            self.no_utf8(2, [0xC3, 0xA4, byte])

    def test_a_byte_with_which_no_utf8_goes_on(self):
        for row in ([0xC2, 0x7F], [0xDF, 0xC0], [0xE0, 0x9F], [0xE1, 0x7F], [0xEC, 0xC0], [0xED, 0xA0], [0xEE, 0x7F],
                    [0xEF, 0xC0], [0xF0, 0x8F], [0xF1, 0x7F], [0xF3, 0xC0], [0xF4, 0x90], [0xC3, 0x41]):
            self.no_utf8(1, row)
            self.no_utf8(1, row + [0x80, 0x80])
        for row in ([0xE0, 0xA0, 0x7F], [0xED, 0x9F, 0xC0], [0xF0, 0x90, 0x41], [0xF4, 0x8F, 0xC0]):
            self.no_utf8(2, row)
        for row in ([0xF0, 0x90, 0x80, 0x7F], [0xF4, 0x8F, 0xBF, 0xC0]):
            self.no_utf8(3, row)

    def test_it_only_ends_too_soon(self):
        for row in ([0xC2], [0xE0], [0xED, 0x9F], [0xF0], [0xF0, 0x90], [0xF4, 0x8F, 0xBF]):
            self.no_utf8(len(row), row)

    def test_the_place_behind_may_be_behind_all(self):
        self.fault_at_front(5, 3, [4, 1, 0xC2])
        self.fault_at_front(5, 4, [6, 1, 1, 0xC2])

    def test_a_scalar_value_does_not_go_on_behind_the_text(self):
        self.fault(5, 3, [4, 1, 0xC3, 0xA4])


class WrongName(JudgeFaults):
    def test_no_bytes(self):
        self.fault(6, 2, [6, 1, 0])
        self.fault(6, 2, record(pair("", NO)))
        self.fault(6, 5, record(pair("a", NO), pair("", NO)))

    def test_more_than_255_bytes(self):
        self.fault(6, 2, record(pair("a" * 256, NO)))
        self.fault(6, 2, [6, 1] + vary(256))
        self.fault(6, 2, [6, 1] + vary(2 ** 32 - 1))
        self.fault(6, 5, [6, 2, 1, 97, 0] + vary(256))

    def test_255_bytes_are_not_too_many(self):
        self.fault(1, 4, [6, 1] + vary(255))

    def test_not_behind_the_name_before_it(self):
        for before, name in (("a", "a"), ("b", "a"), ("ab", "a"), ("ab", "aa"), ("b", "aaa"), ("a", "Z"),
                             ("\x80", "z"), ("\U00010000", "\uffff"), ("a" * 255, "a" * 254), ("a\0", "a")):
            self.fault(6, 2 + len(pair(before, NO)), record(pair(before, NO), pair(name, NO)))

    def test_not_behind_the_name_straight_before_it(self):
        self.fault(6, 8, record(pair("a", NO), pair("c", NO), pair("b", NO)))

    def test_behind_a_record_within(self):
        inner = record(pair("x", NO), pair("y", NO))
        self.fault(6, 4 + len(inner), record(pair("b", inner), pair("a", NO)))


class TooDeep(JudgeFaults):
    def test_65_deep(self):
        for value in (NO, YES, number(1), some_bytes([]), text("a"), some_list(), record(), moment(1), [8], [2, 1]):
            self.fault_at_front(7, 128, within(64, value))
            self.fault_at_front(7, 256, [6, 1, 1, 97] * 64 + value)

    def test_where_only_a_later_member_is_too_deep(self):
        self.fault_at_front(7, 129, within(62, some_list(NO, some_list(NO))))

    def test_the_kind_is_looked_at_first(self):
        self.fault_at_front(2, 128, within(64, [9]))
        self.fault_at_front(1, 128, within(64, []))

    def test_a_list_that_is_empty_though_64_deep(self):
        self.fault_at_front(8, 128, within(63, [5, 0]) + [5])


class BytesBehind(JudgeFaults):
    def test_behind_each_kind(self):
        for value in (NO, YES, number(0), number(5), some_bytes([1]), text("a"), some_list(), some_list(NO), record(),
                      record(pair("a", NO)), moment(5), identity(range(32))):
            self.fault_at_front(8, len(value), value + [0])
            self.fault_at_front(8, len(value), value + [255, 255])


class TwoFaults(JudgeFaults):
    def test_the_first_from_the_front_counts(self):
        self.fault(2, 2, [5, 2, 9, 10])
        self.fault(4, 2, [5, 2, 2, 1, 9])
        self.fault(3, 3, [5, 2, 3, 128, 0, 9])
        self.fault(5, 4, [5, 2, 4, 1, 255, 2, 1])
        self.fault(6, 2, [6, 1, 0, 9])
        self.fault(2, 4, [6, 2, 1, 98, 9, 1, 97, 0])
        self.fault(4, 0, [2, 2, 0, 9])

    def test_a_count_before_what_it_counts(self):
        self.fault(3, 1, [4, 129, 0, 255])
        self.fault(3, 1, [5, 129, 0, 9])
        self.fault(4, 0, [2] + vary(8194) + [0])
        self.fault(6, 2, [6, 1, 128, 2, 255])

    def test_a_name_that_is_no_utf8_and_would_not_be_behind(self):
        self.fault(5, 7, [6, 2, 1, 98, 0, 2, 97, 255, 0])

    def test_a_fault_within_comes_before_bytes_behind(self):
        self.fault_at_front(2, 2, [5, 1, 9, 0, 0])
        self.fault_at_front(4, 0, [2, 1, 0])


if __name__ == "__main__":
    unittest.main()
