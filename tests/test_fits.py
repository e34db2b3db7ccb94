import unittest

import making
from making import ATOMS, NO, NO_VALUES, identity, pair, place_of, record, row, some_list, text, within
from onevalues.values import fits

SOME_ID = "#" + "0f" * 32
# For each word some values that fit it.
BY_WORD = {
    "yesno": ["no", "yes"],
    "number": ["0", "5", "-300"],
    "bytes": ['x""', 'x"00ff"'],
    "text": ['""', '"any"', '"\u00e4\u20ac"'],
    "list": ["[]", "[no]", '[[], {}, "a"]'],
    "record": ["{}", "{a: no}", '{"B b": [], a: {}}'],
    "moment": ["@0", "@-5"],
    "id": ["#" + "0" * 64, SOME_ID],
}
ALL = sum(BY_WORD.values(), [])


class FitsCase(making.CallCase):
    def fits(self, form, *values):
        for words in values:
            self.check([1], fits, row(words), row(form))

    def misfits(self, form, *values):
        """Each value has a mark before what doesn't fit; without one, it is the value itself."""
        for words in values:
            marked = words if "^" in words else "^" + words
            self.check([0, place_of(marked)], fits, row(marked.replace("^", "")), row(form))


class Words(FitsCase):
    def test_any(self):
        self.fits('"any"', *ALL)

    def test_each_of_that_kind(self):
        for word, values in BY_WORD.items():
            self.fits('"' + word + '"', *values)
            self.misfits('"' + word + '"', *[value for value in ALL if value not in values])


class Is(FitsCase):
    def test_each_kind(self):
        for words in ALL:
            self.fits("{is: " + words + "}", words)
            self.misfits("{is: " + words + "}", *[other for other in ALL if other != words])

    def test_near_ones(self):
        self.misfits("{is: [1, [2, 3]]}", "[1, [2, 4]]", "[1, [2]]", "[1, [2, 3], 4]", "[[2, 3], 1]", "[1, 2, 3]")
        self.misfits("{is: {a: 1}}", "{a: 2}", "{b: 1}", "{a: 1, b: 1}", "{}", "[1]")
        self.misfits("{is: 1}", "@1", '"1"', "-1", "yes", 'x"01"')
        self.fits('{is: {is: "any"}}', '{is: "any"}')
        self.misfits('{is: {is: "any"}}', '"any"')

    def test_within(self):
        self.misfits("{list: {is: [1, 2]}, size: [no, no]}", "[[1, 2], ^[1, 3]]")


class Bounds(FitsCase):
    def test_numbers(self):
        self.fits("{number: [-3, 5]}", "-3", "-2", "0", "4", "5")
        self.misfits("{number: [-3, 5]}", "-4", "6", "-300", "300", "1208925819614629174706176")
        self.fits("{number: [no, 5]}", "5", "-1208925819614629174706176")
        self.misfits("{number: [no, 5]}", "6")
        self.fits("{number: [5, no]}", "5", "1208925819614629174706176")
        self.misfits("{number: [5, no]}", "4", "-5")
        self.fits("{number: [no, no]}", "0", "-1208925819614629174706176")
        self.fits("{number: [5, 5]}", "5")
        self.misfits("{number: [5, 5]}", "4", "6")
        self.misfits("{number: [5, 4]}", "4", "5", "0")
        self.misfits("{number: [no, no]}", "@5", "no", '"5"', 'x"05"', "[5]")
        self.fits("{number: [-1208925819614629174706176, -1208925819614629174706175]}", "-1208925819614629174706176")

    def test_bytes(self):
        self.fits("{bytes: [1, 3]}", 'x"00"', 'x"0000"', 'x"000000"')
        self.misfits("{bytes: [1, 3]}", 'x""', 'x"00000000"', '"ab"', "[0, 0]")
        self.fits("{bytes: [no, 0]}", 'x""')
        self.misfits("{bytes: [no, 0]}", 'x"00"')
        self.fits("{bytes: [2, no]}", 'x"0000"', 'x"' + "00" * 300 + '"')
        self.misfits("{bytes: [2, no]}", 'x"00"')
        self.fits("{bytes: [no, no]}", 'x""')
        self.misfits("{bytes: [3, 1]}", 'x"0000"')

    def test_texts_by_scalar_values(self):
        self.fits("{text: [1, 3]}", '"a"', '"abc"', '"\u00e4\u20ac\U0001f600"', '"\\n\\u{0}\\""')
        self.misfits("{text: [1, 3]}", '""', '"abcd"', '"\u00e4\u20ac\U0001f600a"', 'x"00"')
        self.fits("{text: [2, 2]}", '"\U0001f600\U0001f600"', '"\u00e4b"', '"b\u00e4"', '"\ud7ff\ue000"', '"\x80\x80"')
        self.misfits("{text: [2, 2]}", '"\U0001f600"', '"\u00e4"', '"\u20ac"')
        self.fits("{text: [no, 0]}", '""')
        self.fits("{text: [no, no]}", '""', '"abc"')
        self.misfits("{text: [2, 1]}", '"a"', '"ab"')

    def test_bounds_far_beyond_all_sizes(self):
        great = str(2 ** 200)
        self.fits("{text: [0, " + great + "]}", '"a"')
        self.misfits("{bytes: [" + great + ", no]}", 'x"00"')
        self.misfits('{list: "any", size: [' + great + ", " + great + "]}", "[]")


class Lists(FitsCase):
    def test_sizes(self):
        self.fits('{list: "any", size: [1, 2]}', "[no]", "[no, [no]]")
        self.misfits('{list: "any", size: [1, 2]}', "[]", "[no, no, no]", "{}", '""', "no")
        self.fits('{list: "any", size: [no, no]}', "[]", "[no]")
        self.fits('{list: "any", size: [0, 0]}', "[]")
        self.misfits('{list: "any", size: [0, 0]}', "[no]")
        self.misfits('{list: "any", size: [2, 1]}', "[]", "[no]", "[no, no]")

    def test_the_size_before_the_members(self):
        self.misfits('{list: "number", size: [no, 1]}', "[no, 5]", "[5, 5]")

    def test_the_first_member_that_doesnt_fit(self):
        self.fits('{list: "number", size: [no, no]}', "[]", "[1]", "[1, 2, 3]")
        self.misfits('{list: "number", size: [no, no]}', "[^no]", "[1, ^no, 2, yes]", "[1, 2, ^[3]]", '[1, ^"2"]')

    def test_where_within_it(self):
        form = '{list: {list: {list: "number", size: [1, 2]}, size: [no, no]}, size: [no, no]}'
        self.fits(form, "[]", "[[]]", "[[[1], [2, 3]], [[4]]]")
        self.misfits(form, "[[[1], ^[]]]", "[[[1], [2, ^no]], no]", "[[[1]], ^no]", "[[[1], [2, 3], ^[4, 5, 6]], [[no]]]")


class Records(FitsCase):
    def test_names_that_must_be_there(self):
        form = '{maybe: {}, must: {a: "number", b: "text"}, rest: no}'
        self.fits(form, '{a: 1, b: ""}')
        self.misfits(form, "{}", "{a: 1}", '{b: ""}', "[]", "no", '{a: 1, c: ""}', "{a: no, c: no}")
        self.misfits(form, '{a: ^no, b: ""}', "{a: 1, b: ^1}", "{a: ^no, b: no}")

    def test_names_that_may_be_there(self):
        form = '{maybe: {a: "number", b: "text"}, must: {}, rest: no}'
        self.fits(form, '{a: 1, b: ""}', "{}", "{a: 1}", '{b: ""}')
        self.misfits(form, "{a: ^no}", "{a: 1, b: ^1}", "{b: ^1}", "[]")

    def test_names_that_may_not_be_there(self):
        form = '{maybe: {b: "number"}, must: {d: "text"}, rest: no}'
        self.misfits(form, '{a: ^1, b: 1, d: ""}', '{b: 1, c: ^[1], d: ""}', '{b: 1, d: "", e: ^{}}',
                     '{a: ^1, b: no, d: 1, e: 1}', '{b: ^no, c: 1, d: ""}', '{aa: ^1, d: ""}')
        self.misfits("{maybe: {}, must: {}, rest: no}", "{a: ^no, b: no}")
        self.fits("{maybe: {}, must: {}, rest: no}", "{}")

    def test_a_name_missing_before_all_that_is_within(self):
        self.misfits('{maybe: {a: "text"}, must: {z: "text"}, rest: no}', "{a: no, b: no}", "{a: no}", "{x: no}")

    def test_the_rest(self):
        form = '{maybe: {b: "number"}, must: {d: "text"}, rest: "yesno"}'
        self.fits(form, '{d: ""}', '{a: no, b: 5, c: yes, d: "", e: no}', '{b: 5, d: "", z: yes}')
        self.misfits(form, '{a: ^5, b: 5, d: ""}', '{a: no, b: ^no, d: "", e: 5}', '{a: no, d: ^yes, e: 7}',
                     '{d: "", e: no, f: ^[no]}')
        self.fits('{maybe: {}, must: {}, rest: "any"}', "{}", "{a: no}", "{a: [], b: {}}")
        self.misfits('{maybe: {}, must: {}, rest: "any"}', "[]", "no")
        self.misfits("{maybe: {}, must: {}, rest: {is: no}}", "{a: no, b: ^yes}")

    def test_where_within(self):
        form = '{maybe: {a: {list: {maybe: {}, must: {x: "number"}, rest: no}, size: [no, no]}}, must: {}, rest: "id"}'
        self.fits(form, "{a: [{x: 1}, {x: 2}]}", "{a: [], b: " + SOME_ID + "}")
        self.misfits(form, "{a: [{x: 1}, {x: ^no}]}", "{a: [{x: 1}, ^{y: 1}]}", "{a: [{x: 1, y: ^1}]}", "{a: ^{x: 1}}",
                     "{a: [], b: ^[]}")

    def test_names_of_every_sort(self):
        form = '{maybe: {"A": "number"}, must: {"a b": "id", "\u00e4": "text"}, rest: no}'
        self.fits(form, '{"a b": ' + SOME_ID + ', "\u00e4": "x"}', '{"A": 5, "a b": ' + SOME_ID + ', "\u00e4": "x"}')
        self.misfits(form, '{"a b": ' + SOME_ID + "}", '{a: ^5, "a b": ' + SOME_ID + ', "\u00e4": "x"}')


class One(FitsCase):
    def test_one_of_them(self):
        form = '{one: ["number", "text", {list: "number", size: [1, 2]}]}'
        self.fits(form, "5", '"a"', "[1]", "[1, 2]")
        self.misfits(form, "no", "[]", "[1, 2, 3]", "{}")
        self.fits('{one: ["any"]}', *ALL)

    def test_its_own_place_whatever_is_within(self):
        form = '{one: ["number", {list: "number", size: [no, no]}]}'
        self.misfits(form, "[1, no]", "[[1]]", "[1, 2, 3, [no]]")
        self.misfits('{one: [{list: "number", size: [no, no]}]}', "[1, no]")
        self.misfits('{one: [{one: [{list: "number", size: [no, no]}]}]}', "[1, no]")
        self.misfits('{one: [{maybe: {a: "number"}, must: {}, rest: no}]}', "{a: no}", "{b: 5}")

    def test_within_other_forms(self):
        form = '{list: {one: ["number", {list: "number", size: [no, no]}]}, size: [no, no]}'
        self.fits(form, "[]", "[1, [], [1, 2], 3]")
        self.misfits(form, "[1, ^[1, no]]", "[[1], ^no]", "[^[[]], no]")

    def test_of_is(self):
        form = '{one: [{is: "red"}, {is: "green"}, {is: 5}, {is: [1, {a: no}]}, {is: {}}]}'
        self.fits(form, '"red"', '"green"', "5", "[1, {a: no}]", "{}")
        self.misfits(form, '"blue"', '"re"', '""', "[1, {a: yes}]", "6", "[]", "no", "{a: no}")

    def test_whichever_it_is(self):
        forms = ['"number"', '{text: [1, 1]}', "{is: no}", '{list: "id", size: [0, 0]}', "{maybe: {}, must: {}, rest: no}"]
        for turn in range(5):
            form = "{one: [" + ", ".join(forms[turn:] + forms[:turn]) + "]}"
            self.fits(form, "5", '"a"', "no", "[]", "{}")
            self.misfits(form, "yes", '"ab"', "[no]", "{a: no}", "@5")


class Uses(FitsCase):
    def test_of_a_name(self):
        form = '{forms: {a: "number", b: {list: {use: "a"}, size: [1, no]}}, start: {use: "b"}}'
        self.fits(form, "[1]", "[1, 2]")
        self.misfits(form, "[]", "5", "[1, ^no]")
        self.fits('{forms: {a: {use: "b"}, b: {use: "c"}, c: "id"}, start: {use: "a"}}', SOME_ID)
        self.misfits('{forms: {a: {use: "b"}, b: {use: "c"}, c: "id"}, start: {use: "a"}}', "no")
        self.fits('{forms: {a: "number"}, start: "text"}', '"a"')
        self.misfits('{forms: {a: "number"}, start: "text"}', "5")

    def test_names_like_words(self):
        form = '{forms: {any: "number", number: "text"}, start: {list: {use: "number"}, size: [0, 5]}}'
        self.fits(form, '["a"]')
        self.misfits(form, "[^5]")

    def test_where_within(self):
        form = '{forms: {a: {list: {use: "b"}, size: [no, no]}, b: {maybe: {}, must: {x: {use: "c"}}, rest: no}, ' \
               'c: {number: [0, 9]}}, start: {use: "a"}}'
        self.fits(form, "[]", "[{x: 0}, {x: 9}]")
        self.misfits(form, "[{x: 0}, {x: ^10}, no]", "[{x: 0}, ^{}]", "[{x: 0, y: ^1}]", "{}")

    def test_forms_that_come_back_to_themselves(self):
        form = '{forms: {t: {list: {use: "t"}, size: [no, 2]}}, start: {use: "t"}}'
        self.fits(form, "[]", "[[]]", "[[[], []], []]")
        self.misfits(form, "no", "[[], ^no]", "[[[], [^no]]]", "[[], ^[[], [], []]]")
        form = '{forms: {t: {maybe: {left: {use: "t"}, right: {use: "t"}}, must: {n: "number"}, rest: no}}, ' \
               'start: {use: "t"}}'
        self.fits(form, "{n: 1}", "{left: {n: 1}, n: 2, right: {left: {n: 3}, n: 4}}")
        self.misfits(form, "{left: {n: 1}, n: 2, right: {left: ^{}, n: 4}}", "{left: {n: ^no}, n: 2}",
                     "{left: {n: 1, x: ^1}, n: 2}")
        form = '{forms: {t: {one: ["number", {list: {use: "t"}, size: [no, no]}]}}, start: {use: "t"}}'
        self.fits(form, "1", "[]", "[1, [2, [3, []]]]")
        self.misfits(form, "no", "[1, [2, [no]]]")
        form = '{forms: {r: {maybe: {}, must: {}, rest: {use: "r"}}}, start: {use: "r"}}'
        self.fits(form, "{}", "{a: {b: {}}, c: {}}")
        self.misfits(form, "{a: {b: ^no}, c: no}")

    def test_two_that_use_each_other(self):
        form = '{forms: {a: {list: {use: "b"}, size: [no, no]}, b: {maybe: {}, must: {}, rest: {use: "a"}}}, ' \
               'start: {use: "a"}}'
        self.fits(form, "[]", "[{}]", "[{x: [{y: []}]}]")
        self.misfits(form, "[{x: [{y: ^{}}]}]", "[^[]]", "[{x: [^[]]}]")

    def test_as_members_of_one(self):
        form = '{forms: {a: "number", b: {one: [{use: "a"}, {use: "c"}]}, c: {is: no}}, ' \
               'start: {list: {one: ["id", {use: "b"}]}, size: [no, no]}}'
        self.fits(form, "[1, no, " + SOME_ID + "]")
        self.misfits(form, "[1, no, ^yes]")


class Deep(FitsCase):
    def test_very_deep_values(self):
        form = row('{forms: {t: {one: ["number", {list: {use: "t"}, size: [1, 1]}]}}, start: {use: "t"}}')
        self.check([1], fits, within(63, making.number(5)), form)
        self.check([0, 0], fits, within(63, NO), form)
        form = row('{forms: {t: {list: {use: "t"}, size: [no, 1]}}, start: {use: "t"}}')
        self.check([1], fits, within(63, some_list()), form)
        self.check([0, 126], fits, within(63, NO), form)

    def test_ways_without_number(self):
        # Each level doubles the ways to hold the innermost against the form.
        members = '{list: {use: "t"}, size: [1, 1]}, {list: {use: "t"}, size: [no, no]}, ' \
                  '{list: {one: [{use: "t"}, {use: "u"}]}, size: [no, 1]}'
        form = row("{forms: {t: {one: [" + members + ', "number"]}, u: {one: [{use: "t"}, "id"]}}, start: {use: "u"}}')
        self.check([1], fits, within(63, making.number(5)), form)
        self.check([1], fits, within(63, identity([0] * 32)), form)
        self.check([0, 0], fits, within(63, NO), form)
        names = ", ".join(f'n{i:02}: {{one: [{{use: "n{i + 1:02}"}}, {{use: "n{i + 1:02}"}}]}}' for i in range(60))
        form = row("{forms: {" + names + ', n60: {list: "number", size: [1, 1]}}, start: {use: "n00"}}')
        self.check([1], fits, row("[5]"), form)
        self.check([0, 0], fits, row("[no]"), form)


class Refused(FitsCase):
    def test_a_book_that_is_not_right(self):
        for words in ("no", "{one: []}", '{use: "a"}', '{list: "any", size: [-1, no]}', '"integer"',
                      '{forms: {a: {use: "a"}}, start: "any"}', '{forms: {a: no}, start: "any"}',
                      '{forms: {}, start: {use: "a"}}', '{forms: {}, start: no}', '{one: ["any", no]}',
                      '{maybe: {a: "any"}, must: {a: "any"}, rest: no}'):
            for value in [*ATOMS, some_list(), record()]:
                self.check([-5], fits, value, row(words))

    def test_no_values_bytes(self):
        for wrong in NO_VALUES:
            self.check([-6], fits, wrong, text("any"))
            self.check([-6], fits, NO, wrong)
            self.check([-6], fits, wrong, wrong)
            self.check([-6], fits, wrong, NO)
            self.check([-6], fits, wrong, record(pair("one", some_list())))


if __name__ == "__main__":
    unittest.main()
