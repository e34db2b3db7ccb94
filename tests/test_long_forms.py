import unittest

import making
from making import (NO, YES, four_letters, identity, long_record, number, pair, record, row, some_bytes, some_list,
                    some_text, text, vary, within)
from onevalues.values import fits, form
from onevalues.values import number as reckon

LONGEST = 65536
MANY = LONGEST - 4
GREATEST = 256 ** 4096 - 1
NAMES = four_letters(10922)
ANY_SIZE = some_list(NO, NO)


def long_list(members):
    return [5] + vary(len(members)) + [byte for member in members for byte in member]


def use(name):
    return record(pair("use", text(name)))


def book(forms, start):
    """A book with very many forms, the first of them under the name aaaa."""
    pairs = [byte for name, one in zip(NAMES, forms) for byte in pair(name, one)]
    return record(pair("forms", [6] + vary(len(forms)) + pairs), pair("start", start))


def one(members):
    return record(pair("one", long_list(members)))


def as_long_as_may_be(make, member):
    """What is made of as many of the members as may be handed in."""
    many = LONGEST // len(member)
    while len(make([member] * many)) > LONGEST:
        many -= 1
    return make([member] * many)


class LongNumbers(making.CallCase):
    def test_each_operation(self):
        third = GREATEST // 3
        for op, a, b, expected in (
                (0, third, third, 2 * third), (0, GREATEST, 1, None), (0, GREATEST, -GREATEST, 0),
                (1, third, -third, 2 * third), (1, -GREATEST, 1, None), (2, third, 3, 3 * third), (2, third, 4, None),
                (2, GREATEST, GREATEST, None), (3, GREATEST, third, 3), (3, -GREATEST, third + 1, -3),
                (3, GREATEST, 7, GREATEST // 7), (4, GREATEST, third + 1, GREATEST - 2 * (third + 1)),
                (4, -GREATEST, 10 ** 4000, -GREATEST % 10 ** 4000), (5, GREATEST, GREATEST - 1, GREATEST - 1),
                (6, -GREATEST, 1 - GREATEST, 1 - GREATEST), (7, GREATEST, GREATEST, None), (7, GREATEST, 1, GREATEST),
                (7, -1, GREATEST, -1), (8, GREATEST, GREATEST, 256 ** 2048 - 1), (9, third, GREATEST, third),
                (9, GREATEST, GREATEST - 2, 1)):
            self.check([-9] if expected is None else [0] + number(expected), reckon, op, number(a), number(b))

    def test_what_is_long_and_no_number(self):
        for op in range(10):
            self.check([-5], reckon, op, some_bytes([1] * MANY), number(1))
            self.check([-5], reckon, op, number(1), [5] + vary(MANY) + [0] * MANY)
            self.check([-6], reckon, op, [5, 1] * 32768, number(1))
        self.check([-1], reckon, 10, [5, 1] * 32768, [9] * LONGEST)


class LongBooks(making.CallCase):
    def test_very_many_members_of_one(self):
        for member in (text("id"), row("{is: yes}"), row("{number: [5, 9]}"), row('{list: "any", size: [0, 1]}')):
            long = as_long_as_may_be(one, member)
            self.check([0], form, long)
            self.check([0, 0], fits, NO, long)
            self.check([1], fits, NO, one([member] * 2000 + [row("{is: no}")]))
            self.check([-5, 9 + 2000 * len(member)], form, one([member] * 2000 + [NO]))

    def test_very_many_numbers_in_one(self):
        long = one([record(pair("is", number(i))) for i in range(256, 256 + 7000)])
        self.check([1], fits, number(256), long)
        self.check([1], fits, number(7255), long)
        self.check([0, 0], fits, number(7256), long)
        long = one([record(pair("number", some_list(number(2 * i), number(2 * i)))) for i in range(3000)])
        self.check([1], fits, number(5998), long)
        self.check([0, 0], fits, number(5999), long)

    def test_long_values_against_very_many_bounds(self):
        bounds = row("[no, 5]")
        for name, value in (("number", number(GREATEST)), ("text", some_text([97] * MANY)),
                            ("bytes", some_bytes([7] * MANY))):
            self.check([0, 0], fits, value, as_long_as_may_be(one, record(pair(name, bounds))))

    def test_uses_one_behind_another(self):
        many = 3000
        uses = [use(name) for name in NAMES[1:many]]
        self.check([0], form, book([*uses, text("yesno")], use("aaaa")))
        self.check([1], fits, NO, book([*uses, text("yesno")], use("aaaa")))
        self.check([0, 0], fits, NO, book([*uses, text("id")], use("aaaa")))
        self.check([1], fits, [5] + vary(MANY) + [0] * MANY,
                   book([*uses, text("yesno")], record(pair("list", use("aaaa")), pair("size", ANY_SIZE))))

    def test_rings_of_very_many(self):
        many = 3000
        uses = [use(name) for name in NAMES[1:many]]
        # Before the first form stand the book's beginning, the name forms, how many there are, its own name.
        first = 2 + 6 + 3 + 5
        self.check([-5, first], form, book([*uses, use("aaaa")], text("any")))
        last = first + (many - 1) * (len(uses[0]) + 5)
        self.check([-5, last], form, book([*uses, use(NAMES[many - 1])], text("any")))
        self.check([-5, first + 1500 * (len(uses[0]) + 5)], form, book([*uses, use(NAMES[1500])], text("any")))
        self.check([-5], fits, NO, book([*uses, use(NAMES[many - 1])], text("any")))

    def test_ones_one_behind_another(self):
        many = 1600
        ones = [one([use(name), use(name)]) for name in NAMES[1:many]]
        for last, answer in ((text("yesno"), [1]), (text("id"), [0, 0]), (row('{list: "any", size: [0, 0]}'), [0, 0])):
            self.check([0], form, book([*ones, last], use("aaaa")))
            self.check(answer, fits, NO, book([*ones, last], use("aaaa")))
        self.check([-5, 2 + 6 + 3 + 5], form, book([*ones, one([use("aaaa")])], text("any")))
        self.check([-5], fits, NO, book([*ones, one([text("any"), use("aaaa")])], text("any")))

    def test_very_many_names(self):
        words = [byte for name in NAMES[:7000] for byte in pair(name, text("id"))]
        names = [6] + vary(7000) + words
        must = record(pair("maybe", record()), pair("must", names), pair("rest", NO))
        maybe = record(pair("maybe", names), pair("must", record()), pair("rest", NO))
        self.check([0], form, must)
        self.check([0, 0], fits, record(), must)
        self.check([1], fits, record(), maybe)
        self.check([0, 4], fits, record(pair("b", NO)), maybe)
        self.check([0, 7], fits, record(pair("aaaa", NO)), maybe)
        both = record(pair("maybe", names), pair("must", record(pair(NAMES[6999], text("id")))), pair("rest", NO))
        self.check([-5, 0], form, both)

    def test_deep_forms(self):
        deep = text("any")
        for turn in range(31):
            deep = record(pair("one", some_list(deep)))
        self.check([0], form, deep)
        self.check([1], fits, NO, deep)
        self.check([1], fits, [5] + vary(1000) + [0] * 1000, deep)


class LongValues(making.CallCase):
    def test_a_long_list(self):
        value = [5] + vary(MANY) + [0] * MANY
        for member in ('"any"', '"yesno"', "{is: no}", '{one: ["number", "yesno"]}',
                       '{one: ["id", {one: [{is: yes}, {is: no}]}]}'):
            for size in ("[no, no]", "[65532, 65532]"):
                self.check([1], fits, value, row("{list: " + member + ", size: " + size + "}"))
        self.check([0, 0], fits, value, row('{list: "any", size: [no, 65531]}'))
        self.check([0, 4], fits, value, row('{list: "number", size: [no, no]}'))
        self.check([0, LONGEST - 1], fits, value[:-1] + YES, row("{list: {is: no}, size: [no, no]}"))
        self.check([0, LONGEST - 1], fits, value[:-1] + YES, row("{list: {one: [{is: no}, \"id\"]}, size: [no, no]}"))

    def test_a_long_record(self):
        value = long_record()
        self.check([1], fits, value, row('{maybe: {}, must: {aaaa: "yesno"}, rest: "yesno"}'))
        self.check([0, 0], fits, value, row('{maybe: {}, must: {zzzz: "yesno"}, rest: "yesno"}'))
        self.check([0, 8], fits, value, row('{maybe: {}, must: {}, rest: no}'))
        self.check([0, 8 + 6], fits, value, row('{maybe: {}, must: {aaaa: "any"}, rest: no}'))
        self.check([0, LONGEST - 2], fits, value[:-1] + YES, row('{maybe: {}, must: {}, rest: {is: no}}'))

    def test_long_atoms(self):
        self.check([1], fits, some_bytes([7] * MANY), row("{bytes: [65532, 65532]}"))
        self.check([0, 0], fits, some_bytes([7] * MANY), row("{bytes: [no, 65531]}"))
        words = "\u20ac" * (MANY // 3)
        self.check([1], fits, text(words), row("{text: [21844, 21844]}"))
        self.check([0, 0], fits, text(words), row("{text: [21845, no]}"))
        self.check([1], fits, number(GREATEST), record(pair("number", some_list(number(GREATEST), number(GREATEST)))))
        self.check([0, 0], fits, number(GREATEST), record(pair("number", some_list(NO, number(GREATEST - 1)))))
        value = [5, 15] + number(-GREATEST) * 15
        self.check([1], fits, value, row('{list: {number: [no, -1]}, size: [15, 15]}'))

    def test_a_long_value_that_it_is(self):
        for value in (some_bytes([7] * 60000), [5] + vary(60000) + [0] * 60000, within(60, NO)):
            self.check([1], fits, value, record(pair("is", value)))
            self.check([0, 0], fits, value[:-1] + [1], record(pair("is", value)))

    def test_very_many_deep_ones(self):
        many = (LONGEST - 3) // 125
        value = [5] + vary(many) + within(62, NO) * many
        tree = '{forms: {t: {one: ["yesno", {list: {use: "t"}, size: [no, no]}]}}, start: {use: "t"}}'
        self.check([1], fits, value, row(tree))
        self.check([0, 0], fits, value[:-1] + number(5), row(tree))
        twice = '{forms: {t: {one: [{list: {use: "t"}, size: [no, no]}, {list: {use: "t"}, size: [0, no]}, "yesno"]}}, ' \
                'start: {list: {use: "t"}, size: [no, no]}}'
        self.check([1], fits, value, row(twice))
        self.check([0, len(value) - 125], fits, value[:-1] + number(5), row(twice))

    def test_both_long(self):
        value = long_list([number(i) for i in range(256, 16000)])
        self.check([1], fits, value, record(pair("list", one([text("id")] * 10000 + [text("number")])),
                                            pair("size", ANY_SIZE)))
        long = one([record(pair("is", number(i))) for i in range(256, 256 + 6500)])
        self.check([0, 3 + 6500 * 4], fits, value, record(pair("list", long), pair("size", ANY_SIZE)))
        many = long_list([identity([0] * 32)] * 1900)
        self.check([1], fits, many, as_long_as_may_be(lambda members: record(
            pair("list", one([*members, text("id")])), pair("size", ANY_SIZE)), text("text")))

    def test_no_values_bytes(self):
        deep = [5, 1] * 32768
        self.check([-6], form, deep)
        self.check([-6], fits, deep, text("any"))
        self.check([-6], fits, NO, deep)


if __name__ == "__main__":
    unittest.main()
