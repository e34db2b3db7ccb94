"""What the tests share: making values' bytes, a second judge, and a call that is watched."""

import contextlib
import io
import unittest


class Untouchable(list):
    """A list that refuses to be changed, for a while too."""

    def refuse(self, *args, **kwargs):
        raise AssertionError("what was handed in is changed")

    append = extend = insert = pop = remove = clear = sort = reverse = refuse
    __setitem__ = __delitem__ = __iadd__ = __imul__ = refuse


class CallCase(unittest.TestCase):
    def answer(self, call, *args):
        """The call's answer, with all that holds of every call looked at."""
        handed = [Untouchable(arg) if isinstance(arg, list) else arg for arg in args]
        before = [list(arg) if isinstance(arg, list) else arg for arg in args]
        printed = io.StringIO()
        with contextlib.redirect_stdout(printed), contextlib.redirect_stderr(printed):
            first = call(*handed)
            second = call(*handed)
        self.assertEqual(printed.getvalue(), "")
        self.assertEqual(before, handed)
        self.assertIs(type(first), list)
        self.assertEqual({type(number) for number in first}, {int})
        self.assertEqual(first, second)
        self.assertIsNot(first, second)
        return first

    def check(self, expected, call, *args):
        self.assertEqual(self.answer(call, *args), expected)


NO = [0]
YES = [1]


def vary(amount):
    if amount < 128:
        return [amount]
    return [amount % 128 + 128] + vary(amount // 128)


def number(amount):
    length = (abs(amount).bit_length() + 7) // 8
    return [2] + vary(2 * length + (amount < 0)) + list(abs(amount).to_bytes(length, "little"))


def some_bytes(row):
    return [3] + vary(len(row)) + list(row)


def text(words):
    return some_text(words.encode())


def some_text(row):
    """A text of bytes that may be no UTF-8."""
    return [4] + vary(len(row)) + list(row)


def some_list(*members):
    return [5] + vary(len(members)) + sum(members, [])


def pair(name, value):
    """A record's member; the name is words, or bytes that may be no UTF-8."""
    row = name.encode() if isinstance(name, str) else bytes(name)
    return vary(len(row)) + list(row) + value


def record(*pairs):
    return [6] + vary(len(pairs)) + sum(pairs, [])


def moment(amount):
    return [7] + list(amount.to_bytes(8, "little", signed=True))


def identity(row):
    return [8] + list(row)


def within(levels, value):
    """The value within so many lists of one member."""
    return [5, 1] * levels + value


class Wrong(Exception):
    pass


def begun_scalars():
    """What some scalar value's UTF-8 begins with and goes beyond."""
    rows = [chr(scalar).encode() for scalar in range(0x110000) if not 0xD800 <= scalar <= 0xDFFF]
    return {row[:length] for row in rows for length in range(1, len(row))}


class SecondJudge:
    """Judges bytes in another way than the program: downwards by calls, UTF-8 by what Python makes of it."""

    def __init__(self):
        self.begun = begun_scalars()

    def judge(self, row):
        """The value, told in Python's own kinds; raises Wrong with the fault's kind and place."""
        self.row = bytes(row)
        value, end = self.value(0, 1)
        if end != len(self.row):
            raise Wrong(8, end)
        return value

    def told(self, row):
        """What judge should answer."""
        try:
            self.judge(row)
        except Wrong as wrong:
            return [-6] + list(wrong.args)
        return [0]

    def part(self, start, length):
        if start + length > len(self.row):
            raise Wrong(1, len(self.row))
        return self.row[start:start + length]

    def vary(self, start):
        for length in range(1, 6):
            told = self.part(start, length)
            if told[-1] < 128:
                amount = sum((byte & 127) << 7 * k for k, byte in enumerate(told))
                if amount >= 2 ** 32 or list(told) != vary(amount):
                    break
                return amount, start + length
        raise Wrong(3, start)

    def text(self, start, length):
        part = self.part(start, length)
        try:
            return part.decode()
        except UnicodeDecodeError:
            raise Wrong(5, start + self.no_utf8(part)) from None

    def no_utf8(self, part):
        scalar = b""
        for place in range(len(part)):
            scalar += part[place:place + 1]
            if scalar in self.begun:
                continue
            try:
                scalar.decode()
            except UnicodeDecodeError:
                return place
            scalar = b""
        return len(part)

    def value(self, start, level):
        kind = self.part(start, 1)[0]
        if kind > 8:
            raise Wrong(2, start)
        if level == 65:
            raise Wrong(7, start)
        if kind < 2:
            return (kind,), start + 1
        if kind > 6:
            length = 8 if kind == 7 else 32
            return (kind, self.part(start + 1, length)), start + 1 + length
        told, at = self.vary(start + 1)
        return [self.amount, self.bytes, self.words, self.list, self.record][kind - 2](start, told, at, level)

    def amount(self, start, told, at, level):
        if told == 1 or told > 8193:
            raise Wrong(4, start)
        part = self.part(at, told // 2)
        if part.endswith(b"\0"):
            raise Wrong(4, start)
        sign = -1 if told % 2 else 1
        return (2, sign * int.from_bytes(part, "little")), at + told // 2

    def bytes(self, start, told, at, level):
        return (3, self.part(at, told)), at + told

    def words(self, start, told, at, level):
        return (4, self.text(at, told)), at + told

    def list(self, start, told, at, level):
        members = []
        while len(members) < told:
            value, at = self.value(at, level + 1)
            members.append(value)
        return (5, tuple(members)), at

    def record(self, start, told, at, level):
        pairs = []
        while len(pairs) < told:
            length, name_at = self.vary(at)
            if not 1 <= length <= 255:
                raise Wrong(6, at)
            name = self.text(name_at, length)
            if pairs and not pairs[-1][0].encode() < name.encode():
                raise Wrong(6, at)
            value, at = self.value(name_at + length, level + 1)
            pairs.append((name, value))
        return (6, tuple(pairs)), at
