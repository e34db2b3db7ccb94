"""G1 to G7 over the whole program, with values of every kind."""

import itertools
import random
import unittest

import making
from making import depth, identity, made, moment, number, pair, path, record, row_of, some_bytes, some_list, text, within
from onevalues import values
from onevalues.values import (about, add, differ, fits, form, get, judge, member, order, patch, put, read, take, unvary,
                              vary)
from second import inner
from second_forms import form_of

KINDS = ["no", "yes", "number", "bytes", "text", "list", "record", "moment", "id"]
SOME = making.rows(
    "no", "yes", "0", "1", "-1", "255", "256", "-65536", 'x""', 'x"00"', 'x"00ff10"', '""', '"a"', '"ab"',
    '"\\"\\\\\\n\\u{0}\\u{1f}\\u{7f}"', '"\u00e4\u20ac\U0001f600"', "[]", "[no]", "[no, yes]", "[[]]", "[1, [2, [3, {}]]]",
    "{}", "{a: no}", "{a: no, b: yes}", '{" ": 1}', '{"A": [1], a_1: {b: {c: []}}, "\u00e4": x"01"}',
    "@0", "@-1", "@9223372036854775807", "#" + "0" * 64, "#" + "f0" * 32, '[{at: [], put: "x"}, {at: ["a", 0], take: yes}]',
    '{forms: {a: "any"}, start: {use: "a"}}') + [within(63, [0]), number(256 ** 4096 - 1), number(1 - 256 ** 4096)]


def some_rows(seed, how_many, levels=5):
    source = random.Random(seed)
    return [made(source, source.randrange(1, levels + 1)) for turn in range(how_many)]


def judged(row):
    return making.second_judge().judge(row)


def part_at(row, steps):
    """The bytes to which a path leads, None if nowhere."""
    told = get(row, path(*steps))
    return row[told[1]:told[1] + told[2]] if told[0] == 0 else None


def all_paths(value, ahead=()):
    """The steps to a value and to all that is within it."""
    found = [ahead]
    for step, one in inner(value).items():
        found += all_paths(one, (*ahead, step))
    return found


def each_byte(row, others):
    """The row with each byte in turn changed, dropped, doubled."""
    for place in range(len(row)):
        for byte in {*others, row[place] ^ 1, row[place] ^ 128, (row[place] + 1) % 256} - {row[place]}:
            yield row[:place] + [byte] + row[place + 1:]
        yield row[:place] + row[place + 1:]
        yield row[:place] + [row[place]] + row[place:]


class ThereAndBack(making.CallCase):
    """G1: one value, one row of bytes, one text."""

    def test_bytes_to_text_and_back(self):
        for row in SOME + some_rows(60, 1500):
            told = values.text(row)
            self.assertEqual(told[0], 0)
            self.assertEqual(read(told[1:]), [0] + row)
            self.assertEqual(bytes(told[1:]).decode(), making.text_of(judged(row)))

    def test_text_to_bytes_and_back(self):
        for row in SOME + some_rows(61, 1500):
            signs = list(making.text_of(judged(row)).encode())
            told = read(signs)
            self.assertEqual(told[0], 0)
            self.assertEqual(judge(told[1:]), [0])
            self.assertEqual(values.text(told[1:]), [0] + signs)

    def test_two_values_have_two_texts(self):
        rows = {bytes(row) for row in SOME + some_rows(62, 1500)}
        self.assertEqual(len({bytes(values.text(list(row))) for row in rows}), len(rows))

    def test_texts_that_are_near(self):
        for row in SOME[:-3]:
            signs = values.text(row)[1:]
            for other in each_byte(signs, b'"'):
                told = read(other)
                if told[0] == 0:
                    self.assertEqual(values.text(told[1:]), [0] + other)

    def test_bytes_that_are_near(self):
        for row in SOME[:-3]:
            for other in each_byte(row, []):
                if judge(other) == [0]:
                    self.assertEqual(read(values.text(other)[1:]), [0] + other)


class FirstFaults(making.CallCase):
    """G2: bytes and texts that are none have one first fault."""

    def test_of_bytes(self):
        second = making.second_judge()
        for row in SOME[:-3] + [within(63, [0])] + some_rows(63, 60, 4):
            for other in each_byte(row, [0, 9, 127, 128, 255]):
                told = second.told(other)
                self.assertEqual(judge(other), told, other)
                self.assertEqual(about(other)[:1], told[:1])

    def test_of_texts(self):
        second = making.second_reader()
        for row in SOME[:-3] + some_rows(64, 60, 4):
            signs = list(making.text_of(judged(row)).encode())
            for other in each_byte(signs, b' "\\0a,[}x-@#\x80'):
                self.assertEqual(read(other), second.told(other), bytes(other))

    def test_what_is_no_value_is_none_for_each_call(self):
        for row in SOME[:-3:3]:
            for other in each_byte(row, []):
                if judge(other) != [0]:
                    self.none_for_each_call(other)

    def none_for_each_call(self, row):
        for call in (about, values.text, form):
            self.assertEqual(call(row), [-6])
        self.assertEqual(member(0, row), [-6])
        for call in (order, get, take, patch, differ, fits):
            self.assertEqual(call(row, [5, 0]), [-6])
            self.assertEqual(call([5, 0], row), [-6])
        for call in (put, add):
            self.assertEqual(call(row, [5, 0], [0]), [-6])
            self.assertEqual(call([5, 0], row, [0]), [-6])
            self.assertEqual(call([5, 0], [5, 0], row), [-6])
        self.assertEqual(values.number(0, row, [2, 0]), [-6])
        self.assertEqual(values.number(0, [2, 0], row), [-6])


def weight(value):
    """What Python orders as the document says."""
    kind = value[0]
    if kind == 4:
        return (kind, value[1].encode())
    if kind == 5:
        return (kind, tuple(weight(one) for one in value[1]))
    if kind == 6:
        return (kind, tuple((name.encode(), weight(one)) for name, one in value[1]))
    return value


class OneLine(making.CallCase):
    """G3: order is a line."""

    def test_each_pair_both_ways(self):
        rows = SOME + some_rows(65, 150)
        weights = [weight(judged(row)) for row in rows]
        for i, j in itertools.combinations_with_replacement(range(len(rows)), 2):
            expected = 0 if weights[i] == weights[j] else 1 if weights[i] < weights[j] else 2
            self.assertEqual(order(rows[i], rows[j]), [expected])
            self.assertEqual(order(rows[j], rows[i]), [(0, 2, 1)[expected]])
            self.assertEqual(expected == 0, rows[i] == rows[j])

    def test_chains_of_three(self):
        source = random.Random(66)
        rows = SOME + some_rows(67, 300)
        for turn in range(6000):
            a, b, c = [source.choice(rows) for turn in range(3)]
            if order(a, b) == [1] and order(b, c) == [1]:
                self.assertEqual(order(a, c), [1])
                self.assertEqual(order(c, a), [2])
            if order(a, b) == [0]:
                self.assertEqual(order(a, c), order(b, c))


class PutTakenAdded(making.CallCase):
    """G4: what's put is got; what's taken is gone; all else is as it was."""

    def setUp(self):
        self.rows = [row for row in SOME + some_rows(68, 150) if len(row) < 400 and depth(judged(row)) < 60]
        self.new = text("what is new")

    def stays(self, row, came, steps, shift):
        """That all that is not at the steps, round them or within them is as it was, but for numbers shifted behind
        them in their list."""
        for other in all_paths(judged(row)):
            if other[:len(steps)] != steps and steps[:len(other)] != other:
                moved = list(other)
                last = len(steps) - 1
                if len(other) > last and other[:last] == steps[:last] and isinstance(steps[last], int):
                    moved[last] += shift if other[last] >= steps[last] else 0
                self.assertEqual(part_at(came, moved), part_at(row, other))

    def test_put_then_get(self):
        for row in self.rows:
            for steps in all_paths(judged(row)):
                came = put(row, path(*steps), self.new)
                self.assertEqual(came[0], 0)
                self.assertEqual(judge(came[1:]), [0])
                self.assertEqual(part_at(came[1:], steps), self.new)
                self.stays(row, came[1:], steps, 0)
                self.assertEqual(put(came[1:], path(*steps), part_at(row, steps)), [0] + row)

    def test_put_anew_then_get(self):
        for row in self.rows:
            for steps in all_paths(judged(row)):
                kind, many = about(part_at(row, steps))[1:3]
                new = (*steps, many if kind == 5 else "new")
                came = put(row, path(*new), self.new)
                if kind in (5, 6):
                    self.assertEqual(part_at(came[1:], new), self.new)
                    self.stays(row, came[1:], new, 0)
                    self.assertEqual(take(came[1:], path(*new)), [0] + row)
                else:
                    self.assertEqual(came, [-4, len(steps)])

    def test_take_then_get(self):
        for row in self.rows:
            for steps in all_paths(judged(row))[1:]:
                came = take(row, path(*steps))
                self.assertEqual(came[0], 0)
                self.assertEqual(judge(came[1:]), [0])
                many = about(part_at(row, steps[:-1]))[2]
                self.assertEqual(about(part_at(came[1:], steps[:-1]))[2], many - 1)
                self.stays(row, came[1:], steps, -1)
                if isinstance(steps[-1], str):
                    self.assertEqual(get(came[1:], path(*steps)), [-4, len(steps) - 1])
                    self.assertEqual(put(came[1:], path(*steps), part_at(row, steps)), [0] + row)
                else:
                    self.assertEqual(add(came[1:], path(*steps), part_at(row, steps)), [0] + row)

    def test_add_then_get(self):
        for row in self.rows:
            for steps in all_paths(judged(row)):
                kind, many = about(part_at(row, steps))[1:3]
                for i in range(many + 1) if kind == 5 else ():
                    came = add(row, path(*steps, i), self.new)
                    self.assertEqual(judge(came[1:]), [0])
                    self.assertEqual(part_at(came[1:], (*steps, i)), self.new)
                    self.stays(row, came[1:], (*steps, i), 1)
                    self.assertEqual(take(came[1:], path(*steps, i)), [0] + row)

    def test_members_are_where_get_finds_them(self):
        for row in self.rows:
            for i, (step, one) in enumerate(inner(judged(row)).items()):
                told = member(i, row)
                self.assertEqual([0] + told[3:], get(row, path(step)))
                self.assertEqual(row[told[3]:told[3] + told[4]], row_of(one))
                if isinstance(step, str):
                    self.assertEqual(bytes(row[told[1]:told[1] + told[2]]).decode(), step)


class Differing(making.CallCase):
    """G5: a patched by how b differs from it is b."""

    def test_each_pair(self):
        rows = [row for row in SOME if depth(judged(row)) <= 62] + some_rows(69, 60)
        for a in rows:
            for b in rows:
                told = differ(a, b)
                self.assertEqual(told[0], 0)
                self.assertEqual(judge(told[1:]), [0])
                self.assertEqual(patch(a, told[1:]), [0] + b)
                self.assertEqual(told[1:] == [5, 0], order(a, b) == [0])

    def test_there_and_back_by_the_text_of_the_patch(self):
        rows = some_rows(70, 40)
        for a, b in zip(rows, rows[1:]):
            told = read(values.text(differ(a, b)[1:])[1:])
            self.assertEqual(patch(a, told[1:]), [0] + b)

    def test_patches_differ_too(self):
        rows = some_rows(71, 30)
        for a, b, c in zip(rows, rows[1:], rows[2:]):
            first, second = differ(a, b)[1:], differ(a, c)[1:]
            between = differ(first, second)
            self.assertEqual(patch(first, between[1:]), [0] + second)


class Exact(making.CallCase):
    """G6: numbers are exact, held against each other."""

    def came(self, op, a, b):
        told = values.number(op, a, b)
        self.assertEqual(told[0], 0)
        self.assertEqual(judge(told[1:]), [0])
        return told[1:]

    def numbers(self):
        source = random.Random(72)
        amounts = [0, 1, -1, 2, -2, 10, 255, 256, -257, 10 ** 30, -10 ** 31, 3 ** 4000, -7 ** 3000]
        amounts += [source.choice([-1, 1]) * source.getrandbits(source.choice([4, 20, 90, 4000])) for turn in range(14)]
        return [number(amount) for amount in amounts]

    def test_a_quotient_times_b_and_what_is_left_over_make_a(self):
        for a, b in itertools.product(self.numbers(), repeat=2):
            if b == number(0):
                self.assertEqual(values.number(3, a, b), [-4])
                self.assertEqual(values.number(4, a, b), [-4])
                continue
            left = self.came(4, a, b)
            self.assertEqual(self.came(0, self.came(2, self.came(3, a, b), b), left), a)
            # What is left over is of b's sign, or 0, and nearer to 0 than b.
            if order(b, number(0)) == [2]:
                self.assertEqual((order(left, number(-1)), order(left, b)), ([2], [1]))
            else:
                self.assertEqual((order(left, number(1)), order(left, b)), ([1], [2]))

    def test_sums_and_differences(self):
        for a, b in itertools.product(self.numbers(), repeat=2):
            self.assertEqual(self.came(1, self.came(0, a, b), b), a)
            self.assertEqual(self.came(0, a, b), self.came(0, b, a))
            self.assertEqual(self.came(2, a, b), self.came(2, b, a))
            self.assertEqual(self.came(0, self.came(5, a, b), self.came(6, a, b)), self.came(0, a, b))
            self.assertIn(order(self.came(5, a, b), self.came(6, a, b)), ([0], [1]))

    def test_powers_and_roots(self):
        for a in self.numbers():
            square = self.came(2, a, a)
            for many, power in enumerate((number(1), a, square, self.came(2, square, a))):
                self.assertEqual(values.number(7, a, number(many)), [0] + power)
            size = self.came(6, a, self.came(1, number(0), a))
            self.assertEqual(self.came(8, square, a), size)
            if a != number(0):
                self.assertEqual(self.came(8, self.came(1, square, number(1)), a), self.came(1, size, number(1)))
                self.assertEqual(self.came(8, self.came(0, square, number(1)), a), size)

    def test_divisors(self):
        for a, b in itertools.product(self.numbers(), repeat=2):
            common = self.came(9, a, b)
            self.assertEqual(common, self.came(9, b, a))
            if common == number(0):
                self.assertEqual((a, b), (number(0), number(0)))
            else:
                self.assertEqual((self.came(4, a, common), self.came(4, b, common)), (number(0), number(0)))
                self.assertEqual(self.came(9, self.came(3, a, common), self.came(3, b, common)), number(1))

    def test_texts_tell_the_same(self):
        for a, b in itertools.product(self.numbers()[:12], repeat=2):
            told = [int(bytes(values.text(row)[1:])) for row in (a, b)]
            self.assertEqual(values.text(self.came(2, a, b))[1:], list(str(told[0] * told[1]).encode()))


class ToldByItsParts(making.CallCase):
    """G7: what fits is told by its own parts."""

    def told_by_parts(self, row, one):
        """What comes of holding each member of a list or record against the form."""
        for i in range(about(row)[2]):
            place, length = member(i, row)[3:]
            told = fits(row[place:place + length], one)
            if told != [1]:
                return [0, place + told[1]]
        return [1]

    def test_forms_made_of_the_value_alone(self):
        for row in SOME + some_rows(73, 300):
            kind = "yesno" if row[0] < 2 else KINDS[row[0]]
            self.assertEqual(fits(row, text(kind)), [1])
            self.assertEqual(fits(row, text("any")), [1])
            if depth(judged(row)) < 64:
                self.assertEqual(fits(row, record(pair("is", row))), [1])
            for other in set(KINDS[2:]) - {kind}:
                self.assertEqual(fits(row, text(other)), [0, 0])

    def test_forms_made_of_the_value_by_chance(self):
        source = random.Random(74)
        fitting = 0
        for row in some_rows(75, 1000):
            made_of_it = row_of(form_of(source, judged(row), 0))
            told = fits(row, made_of_it)
            if form(made_of_it) != [0]:
                self.assertEqual(told, [-5])
            elif told == [1]:
                fitting += 1
            else:
                self.assertEqual((told[0], len(told)), (0, 2))
                self.assertLess(told[1], len(row))
        self.assertGreater(fitting, 500)

    def test_lists_by_their_members(self):
        source = random.Random(76)
        for row in [row for row in some_rows(77, 2500) if row[0] == 5]:
            first = judged(row)[1][0] if about(row)[2] else (0,)
            one = row_of(form_of(source, first, 0.3))
            if form(one) == [0]:
                size = some_list([0], [0])
                self.assertEqual(fits(row, record(pair("list", one), pair("size", size))), self.told_by_parts(row, one))

    def test_records_by_their_members(self):
        source = random.Random(78)
        for row in [row for row in some_rows(79, 2500) if row[0] == 6]:
            rest = row_of(form_of(source, (0,), 0.5))
            if form(rest) == [0]:
                rests = record(pair("maybe", record()), pair("must", record()), pair("rest", rest))
                self.assertEqual(fits(row, rests), self.told_by_parts(row, rest))

    def test_one_by_its_members(self):
        source = random.Random(80)
        for row in some_rows(81, 800):
            forms = [row_of(form_of(source, judged(row), 0.7)) for turn in range(3)]
            if all(form(one) == [0] for one in forms):
                fit = any(fits(row, one) == [1] for one in forms)
                self.assertEqual(fits(row, record(pair("one", some_list(*forms)))), [1] if fit else [0, 0])

    def test_uses_by_what_they_use(self):
        source = random.Random(82)
        for row in some_rows(83, 800):
            one = row_of(form_of(source, judged(row), 0.3))
            if form(one) == [0]:
                book = record(pair("forms", record(pair("n", one))), pair("start", record(pair("use", text("n")))))
                self.assertEqual(fits(row, book), fits(row, one))


class VaryingNumbers(making.CallCase):
    def test_those_in_values_are_those_of_vary(self):
        for many in (0, 1, 127, 128, 300, 16383, 16384, 60000):
            told = vary(many)[1:]
            for row in ([3] + told + [7] * many, [4] + told + [97] * many, [5] + told + [0] * many):
                self.assertEqual(about(row)[2], many)
                self.assertEqual(unvary(row[1:]), [0, many, len(told)])

    def test_what_is_none_is_fault_3_or_1(self):
        for told in itertools.product((0, 1, 15, 16, 127, 128, 255), repeat=4):
            for row in (list(told), [128] + list(told), [255] + list(told)):
                if unvary(row) == [-6]:
                    self.assertIn(judge([3] + row), ([-6, 3, 1], [-6, 1, 1 + len(row)]))
                else:
                    self.assertNotEqual(judge([3] + row)[:2], [-6, 3])


class MomentsAndIds(making.CallCase):
    def test_they_go_through_every_call(self):
        for row in (moment(-5), identity(range(32)), some_bytes([1, 2])):
            held = record(pair("a", some_list(row, row)))
            self.assertEqual(part_at(held, ["a", 1]), row)
            self.assertEqual(patch(record(), differ(record(), held)[1:]), [0] + held)
            self.assertEqual(fits(held, record(pair("is", held))), [1])


if __name__ == "__main__":
    unittest.main()
