"""What the tests share: making values' bytes, a second judge, a second reader, and a call that is watched."""

import contextlib
import functools
import io
import sys
import unittest


class Untouchable(list):
    """A list that refuses to be changed, for a while too."""

    def refuse(self, *args, **kwargs):
        raise AssertionError("what was handed in is changed")

    append = extend = insert = pop = remove = clear = sort = reverse = refuse
    __setitem__ = __delitem__ = __iadd__ = __imul__ = refuse


class CallCase(unittest.TestCase):
    def answer(self, call, *args):
        """The call's answer, with all that holds of every call looked at."""
        handed = [Untouchable(arg) if isinstance(arg, list) else arg for arg in args]
        before = [list(arg) if isinstance(arg, list) else arg for arg in args]
        printed = io.StringIO()
        with contextlib.redirect_stdout(printed), contextlib.redirect_stderr(printed):
            first = call(*handed)
            second = call(*handed)
        self.assertEqual(printed.getvalue(), "")
        self.assertEqual(before, handed)
        self.assertIs(type(first), list)
        self.assertEqual({type(number) for number in first}, {int})
        self.assertEqual(first, second)
        self.assertIsNot(first, second)
        return first

    def check(self, expected, call, *args):
        self.assertEqual(self.answer(call, *args), expected)


NO = [0]
YES = [1]
WORDS = ["", "a", "b", "ab", "a_1", "A", "1a", "a b", "\"", "\\", "\n", "\0", "\x1f", "\x7f", "\u0080", "\u00e4",
         "\u20ac", "\ud7ff", "\ue000", "\U00010000", "\U0010ffff"]
# The scalar values that are told otherwise in a text than they are, each with how.
TOLD = {"\"": "\\\"", "\\": "\\\\", "\n": "\\n"}
for number_told in [*range(0x0A), *range(0x0B, 0x20), 0x7F]:
    TOLD[chr(number_told)] = "\\u{" + format(number_told, "x") + "}"


def vary(amount):
    if amount < 128:
        return [amount]
    return [amount % 128 + 128] + vary(amount // 128)


def number(amount):
    length = (abs(amount).bit_length() + 7) // 8
    return [2] + vary(2 * length + (amount < 0)) + list(abs(amount).to_bytes(length, "little"))


def some_bytes(row):
    return [3] + vary(len(row)) + list(row)


def text(words):
    return some_text(words.encode())


def some_text(row):
    """A text of bytes that may be no UTF-8."""
    return [4] + vary(len(row)) + list(row)


def some_list(*members):
    return [5] + vary(len(members)) + sum(members, [])


def pair(name, value):
    """A record's member; the name is words, or bytes that may be no UTF-8."""
    row = name.encode() if isinstance(name, str) else bytes(name)
    return vary(len(row)) + list(row) + value


def record(*pairs):
    return [6] + vary(len(pairs)) + sum(pairs, [])


def moment(amount):
    return [7] + list(amount.to_bytes(8, "little", signed=True))


def identity(row):
    return [8] + list(row)


def within(levels, value):
    """The value within so many lists of one member."""
    return [5, 1] * levels + value


def four_letters(how_many):
    """So many names, rising."""
    return ["".join(chr(97 + i // 26 ** k % 26) for k in (3, 2, 1, 0)) for i in range(how_many)]


def long_record():
    """The bytes of a record with 10,922 of those names, each with no: as many as 65,536 bytes hold."""
    return [6] + vary(10922) + [byte for name in four_letters(10922) for byte in [4, *name.encode(), 0]]


def path(*steps):
    """A path's bytes: numbers, texts, or bytes that are some other value's."""
    made_of = {int: number, str: text, list: list}
    return some_list(*[made_of[type(step)](step) for step in steps])


def put_step(steps, x):
    """A patch's step."""
    return record(pair("at", path(*steps)), pair("put", x))


def take_step(*steps):
    return record(pair("at", path(*steps)), pair("take", YES))


def add_step(steps, x):
    return record(pair("add", x), pair("at", path(*steps)))


ATOMS = [NO, YES, number(0), number(-300), some_bytes([0, 5, 1]), text("ab"), moment(0), identity(range(32))]

# Values' bytes that are no path's: no list, or a list with a member that is no step, also behind such as are.
NO_PATHS = [NO, YES, number(0), some_bytes([5, 0]), text(""), text("a"), record(), record(pair("a", number(0))),
            moment(0), identity([0] * 32), path(NO), path(YES), path(0, NO), path("a", YES, "a"), path(0, 0, [3, 0]),
            path(path()), path(0, path(0)), path(record()), path(moment(0), 0), path(identity([0] * 32)),
            path(9, "nowhere", 0, -1, NO), path(*[0] * 200, some_bytes([]))]

# No value's bytes, one for each fault, and some more.
NO_VALUES = [[], [9], [5, 2, 0], [3, 128, 0], [2, 1], [4, 1, 255], [6, 1, 0, 0], [6, 2, 1, 98, 0, 1, 97, 0],
             within(64, NO), [0, 0], [255] * 40, [8] * 32]


def made(source, levels):
    """Some value's bytes, at most so many deep."""
    kind = source.randrange(11 if levels > 1 else 7)
    if kind < 2:
        return [kind]
    if kind == 2:
        return number(source.choice([-1, 1]) * source.getrandbits(source.choice([0, 1, 8, 16, 70])))
    if kind == 3:
        return some_bytes(source.randbytes(source.randrange(5)))
    if kind == 4:
        return text("".join(source.choices(WORDS, k=source.randrange(4))))
    if kind == 5:
        return moment(source.randrange(-2 ** 63, 2 ** 63))
    if kind == 6:
        return identity(source.randbytes(32))
    members = [made(source, levels - 1) for turn in range(source.randrange(5))]
    if kind < 9:
        return some_list(*members)
    names = sorted(source.sample(WORDS[1:], len(members)), key=str.encode)
    return record(*[pair(name, member) for name, member in zip(names, members)])


def spoilt(source, row):
    """The row with one byte changed, put in or taken out."""
    place = source.randrange(len(row))
    byte = source.choice([0, 1, 2, 3, 4, 5, 6, 7, 8, 9, 127, 128, 192, 237, 255, source.randrange(256)])
    return source.choice([row[:place] + [byte] + row[place + 1:], row[:place] + [byte] + row[place:],
                          row[:place] + row[place + 1:]])


def any_length(convert, what):
    """Between numbers and figures of any length by Python's own means, which the program has to do without."""
    most = sys.get_int_max_str_digits()
    sys.set_int_max_str_digits(0)
    try:
        return convert(what)
    finally:
        sys.set_int_max_str_digits(most)


def in_tens(amount):
    return any_length(str, amount)


def from_tens(figures):
    return any_length(int, figures)


class Wrong(Exception):
    pass


@functools.cache
def begun_scalars():
    """What some scalar value's UTF-8 begins with and goes beyond."""
    rows = [chr(scalar).encode() for scalar in range(0x110000) if not 0xD800 <= scalar <= 0xDFFF]
    return {row[:length] for row in rows for length in range(1, len(row))}


class SecondJudge:
    """Judges bytes in another way than the program: downwards by calls, UTF-8 by what Python makes of it."""

    def __init__(self):
        self.begun = begun_scalars()

    def judge(self, row):
        """The value, told in Python's own kinds; raises Wrong with the fault's kind and place."""
        self.row = bytes(row)
        value, end = self.value(0, 1)
        if end != len(self.row):
            raise Wrong(8, end)
        return value

    def told(self, row):
        """What judge should answer."""
        try:
            self.judge(row)
        except Wrong as wrong:
            return [-6] + list(wrong.args)
        return [0]

    def part(self, start, length):
        if start + length > len(self.row):
            raise Wrong(1, len(self.row))
        return self.row[start:start + length]

    def vary(self, start):
        for length in range(1, 6):
            told = self.part(start, length)
            if told[-1] < 128:
                amount = sum((byte & 127) << 7 * k for k, byte in enumerate(told))
                if amount >= 2 ** 32 or list(told) != vary(amount):
                    break
                return amount, start + length
        raise Wrong(3, start)

    def text(self, start, length):
        part = self.part(start, length)
        try:
            return part.decode()
        except UnicodeDecodeError:
            raise Wrong(5, start + self.no_utf8(part)) from None

    def no_utf8(self, part):
        scalar = b""
        for place in range(len(part)):
            scalar += part[place:place + 1]
            if scalar in self.begun:
                continue
            try:
                scalar.decode()
            except UnicodeDecodeError:
                return place
            scalar = b""
        return len(part)

    def value(self, start, level):
        kind = self.part(start, 1)[0]
        if kind > 8:
            raise Wrong(2, start)
        if level == 65:
            raise Wrong(7, start)
        if kind < 2:
            return (kind,), start + 1
        if kind == 7:
            return (kind, int.from_bytes(self.part(start + 1, 8), "little", signed=True)), start + 9
        if kind == 8:
            return (kind, self.part(start + 1, 32)), start + 33
        told, at = self.vary(start + 1)
        return [self.amount, self.bytes, self.words, self.list, self.record][kind - 2](start, told, at, level)

    def amount(self, start, told, at, level):
        if told == 1 or told > 8193:
            raise Wrong(4, start)
        part = self.part(at, told // 2)
        if part.endswith(b"\0"):
            raise Wrong(4, start)
        sign = -1 if told % 2 else 1
        return (2, sign * int.from_bytes(part, "little")), at + told // 2

    def bytes(self, start, told, at, level):
        return (3, self.part(at, told)), at + told

    def words(self, start, told, at, level):
        return (4, self.text(at, told)), at + told

    def list(self, start, told, at, level):
        members = []
        while len(members) < told:
            value, at = self.value(at, level + 1)
            members.append(value)
        return (5, tuple(members)), at

    def record(self, start, told, at, level):
        pairs = []
        while len(pairs) < told:
            length, name_at = self.vary(at)
            if not 1 <= length <= 255:
                raise Wrong(6, at)
            name = self.text(name_at, length)
            if pairs and not pairs[-1][0].encode() < name.encode():
                raise Wrong(6, at)
            value, at = self.value(name_at + length, level + 1)
            pairs.append((name, value))
        return (6, tuple(pairs)), at


def row_of(value):
    """The bytes of a value that the second judge gave back, or of one made of such."""
    kind = value[0]
    if kind < 2:
        return [kind]
    if kind == 5:
        return some_list(*[row_of(member) for member in value[1]])
    if kind == 6:
        return record(*[pair(name, row_of(member)) for name, member in value[1]])
    return {2: number, 3: some_bytes, 4: text, 7: moment, 8: identity}[kind](value[1])


def depth(value):
    kind = value[0]
    members = value[1] if kind == 5 else [pair[1] for pair in value[1]] if kind == 6 else ()
    return 1 + max([depth(one) for one in members], default=0)


def quoted(words):
    return '"' + "".join(TOLD.get(sign, sign) for sign in words) + '"'


def stands(name):
    signs = set("abcdefghijklmnopqrstuvwxyz")
    return name[:1] in signs and set(name) <= signs | set("0123456789_")


def text_of(value):
    """The text, as Python's, of a value that the second judge gave back."""
    kind = value[0]
    if kind < 2:
        return ("no", "yes")[kind]
    if kind == 2:
        return in_tens(value[1])
    if kind == 3:
        return 'x"' + value[1].hex() + '"'
    if kind == 4:
        return quoted(value[1])
    if kind == 5:
        return "[" + ", ".join(text_of(member) for member in value[1]) + "]"
    if kind == 6:
        pairs = [(name if stands(name) else quoted(name)) + ": " + text_of(member) for name, member in value[1]]
        return "{" + ", ".join(pairs) + "}"
    return "@" + str(value[1]) if kind == 7 else "#" + value[1].hex()


class SecondReader:
    """Reads texts in another way than the program: downwards by calls, and word by word out of those there are."""

    def __init__(self):
        self.escapes = {told.encode(): list(scalar.encode()) for scalar, told in TOLD.items()}
        self.pairs = {format(byte, "02x").encode(): byte for byte in range(256)}
        self.begun = begun_scalars()

    def told(self, row):
        """What read should answer."""
        self.row = bytes(row)
        try:
            value, end = self.value(0, 1)
            if end != len(self.row):
                raise Wrong(8, end)
            return [0] + value
        except Wrong as wrong:
            return [-6] + list(wrong.args)

    def word(self, at, words):
        """The one of these words that stands there; none of them is another's beginning."""
        for end in range(at + 1, len(self.row) + 1):
            told = self.row[at:end]
            if told in words:
                return told, end
            if not any(word.startswith(told) for word in words):
                raise Wrong(2, end - 1)
        raise Wrong(1, len(self.row))

    def one(self, at, signs):
        return self.word(at, [bytes([sign]) for sign in signs])

    def value(self, at, level):
        first = self.one(at, b'nyx"[{@#-0123456789')[0]
        if level == 65:
            raise Wrong(7, at)
        if first in b"ny":
            word, end = self.word(at, [b"no", b"yes"])
            return ([0] if word == b"no" else [1]), end
        if first == b'"':
            row, end = self.text(at)
            return some_text(row), end
        if first == b"x":
            return self.some_bytes(self.word(at, [b'x"'])[1])
        if first == b"#":
            return self.identity(at + 1)
        if first == b"[":
            return self.list(at, level)
        return self.record(at, level) if first == b"{" else self.amount(at)

    def amount(self, at):
        is_moment = self.row[at:at + 1] == b"@"
        first = at + is_moment
        below_0 = self.one(first, b"-0123456789")[0] == b"-"
        first += below_0
        figure, end = self.one(first, b"123456789" if below_0 else b"0123456789")
        while self.row[end:end + 1].isdigit():
            if figure == b"0":
                raise Wrong(2, end)
            end += 1
        told = from_tens(self.row[at + is_moment:end])
        lowest, highest = (-2 ** 63, 2 ** 63 - 1) if is_moment else (1 - 256 ** 4096, 256 ** 4096 - 1)
        if not lowest <= told <= highest:
            raise Wrong(4, at)
        return (moment if is_moment else number)(told), end

    def some_bytes(self, at):
        row = []
        word, at = self.word(at, [b'"', *self.pairs])
        while word != b'"':
            row.append(self.pairs[word])
            word, at = self.word(at, [b'"', *self.pairs])
        return some_bytes(row), at

    def identity(self, at):
        row = []
        while len(row) < 32:
            word, at = self.word(at, self.pairs)
            row.append(self.pairs[word])
        return identity(row), at

    def text(self, at):
        """What stands between the quotes, and the place behind."""
        row = []
        at += 1
        while self.row[at:at + 1] != b'"':
            if self.row[at:at + 1] == b"\\":
                word, at = self.word(at, self.escapes)
                row += self.escapes[word]
            else:
                end = self.scalar(at)
                row += self.row[at:end]
                at = end
        return row, at + 1

    def scalar(self, at):
        end = at + 1
        while end <= len(self.row):
            told = self.row[at:end]
            if told not in self.begun:
                try:
                    if told.decode() in TOLD:
                        raise Wrong(2, at)
                    return end
                except UnicodeDecodeError:
                    raise Wrong(5, end - 1) from None
            end += 1
        raise Wrong(1, len(self.row))

    def list(self, at, level):
        members = []
        if self.row[at + 1:at + 2] == b"]":
            return some_list(), at + 2
        word = b"["
        while word != b"]":
            value, at = self.value(at + 1 if word == b"[" else at, level + 1)
            members.append(value)
            word, at = self.word(at, [b", ", b"]"])
        return some_list(*members), at

    def record(self, at, level):
        pairs = []
        if self.row[at + 1:at + 2] == b"}":
            return record(), at + 2
        before, word = b"", b"{"
        at += 1
        while word != b"}":
            name, at = self.name(at, before)
            value, at = self.value(self.word(at, [b": "])[1], level + 1)
            pairs.append(pair(name, value))
            before = name
            word, at = self.word(at, [b", ", b"}"])
        return record(*pairs), at

    def name(self, at, before):
        start = at
        if self.one(at, b'"abcdefghijklmnopqrstuvwxyz')[0] == b'"':
            row, at = self.text(at)
            name = bytes(row)
            if stands(name.decode()):
                raise Wrong(2, start)
        else:
            while stands(self.row[start:at + 1].decode("latin-1")):
                at += 1
                if at == len(self.row):
                    raise Wrong(1, at)
            name = self.row[start:at]
        if not (1 <= len(name) <= 255 and before < name):
            raise Wrong(6, start)
        return name, at


@functools.cache
def second_reader():
    return SecondReader()


@functools.cache
def second_judge():
    return SecondJudge()


def row(words):
    """The bytes of the value whose text this is, by the second reader."""
    told = second_reader().told(words.encode())
    if told[0] != 0:
        raise ValueError(f"no value's text: {words}: {told}")
    return told[1:]


def rows(*texts):
    return [row(words) for words in texts]


# A value that stands nowhere else, for finding places.
STRANGE = "@7161677110969590627"


def place_of(marked):
    """The place in the bytes of the value before which a mark stands in the text: where, if another stood in its
    place that stands nowhere else, that one would be."""
    before, behind = marked.split("^")
    reader = second_reader()
    reader.row = (before + behind).encode()
    end = reader.value(len(before.encode()), 1)[1]
    told = row(before + STRANGE + reader.row[end:].decode())
    return next(place for place in range(len(told)) if told[place:place + 9] == row(STRANGE))
