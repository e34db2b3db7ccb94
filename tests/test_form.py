import unittest

import making
from making import ATOMS, NO, NO_VALUES, pair, place_of, record, row, some_list, text, within
from onevalues.values import form

WORDS = ["any", "yesno", "number", "bytes", "text", "list", "record", "moment", "id"]
BOUNDS = ["[no, no]", "[0, no]", "[no, 5]", "[0, 0]", "[5, 3]", "[1, 340282366920938463463374607431768211456]"]
NO_BOUNDS = ["no", "yes", "5", '"[]"', "{}", "{a: 1, b: 2}", "[]", "[no]", "[0]", "[no, no, no]", "[0, 1, 2]",
             "[yes, no]", "[no, yes]", '["0", 1]', '[0, "1"]', "[[], no]", "[no, {}]", 'x"0001"', "[@0, @1]", "@5",
             "[no, x\"05\"]"]
# Values that are no forms by their own shape.
NO_FORMS = [
    "no", "yes", "5", "-1", 'x""', "@0", "#" + "0" * 64, "[]", '["any"]', "{}", '""', '"Any"', '"any "', '"an"', '"anyy"',
    '"no"', '"yes"', '"one"', '"use"', '"is"', '"integer"', '"maybe"', '{any: "any"}', "{iss: no}", "{i: no}",
    '{"Is": no}', "{is: no, it: no}", "{a: no, is: no}", "{is: no, number: [0, 1]}", '{list: "any"}', "{size: [0, 1]}",
    '{list: "any", sizes: [0, 1]}', '{list: "any", max: 5, size: [0, 1]}', '{list: "any", size: [0, 1], z: no}',
    "{number: [0, 1], text: [0, 1]}", "{moment: [0, 1]}", "{id: [0, 1]}", "{record: [0, 1]}", "{yesno: [0, 1]}",
    "{maybe: {}, must: {}}", "{must: {}, rest: no}", "{maybe: {}, rest: no}", "{must: {}}", "{maybe: {}}", "{rest: no}",
    "{maybe: {}, must: {}, rest: no, z: no}", "{a: no, maybe: {}, must: {}, rest: no}", "{maybe: {}, must: {}, res: no}",
    "{maybe: [], must: {}, rest: no}", "{maybe: {}, must: [], rest: no}", "{maybe: no, must: {}, rest: no}",
    '{maybe: {}, must: "any", rest: no}', '{maybe: {a: "any"}, must: {a: "any"}, rest: no}',
    '{maybe: {a: "any", b: "any"}, must: {b: "any", c: "any"}, rest: no}', "{one: []}", "{one: {}}", '{one: "any"}',
    "{one: no}", '{one: {a: "any"}}', '{one: ["any"], two: no}', "{use: no}", '{use: ""}', '{use: ["a"]}', "{use: 5}",
    '{use: x"61"}', '{use: "' + "a" * 256 + '"}', '{use: "a", used: no}', "{forms: {}}", '{start: "any"}',
]


class FormCase(making.CallCase):
    def right(self, words):
        self.check([0], form, row(words))

    def wrong(self, place, words):
        self.check([-5, place], form, row(words))

    def wrong_at(self, marked):
        """That the first fault is that of the value before which the mark stands."""
        self.check([-5, place_of(marked)], form, row(marked.replace("^", "")))


class Right(FormCase):
    def test_words(self):
        for word in WORDS:
            self.right('"' + word + '"')

    def test_is(self):
        for value in [*ATOMS, some_list(), some_list(NO), record(), record(pair("is", text("no form"))), within(62, NO),
                      row("{one: []}"), row('{use: "a"}')]:
            self.check([0], form, record(pair("is", value)))

    def test_bounds(self):
        for bounds in BOUNDS:
            for name in ("number", "bytes", "text"):
                self.right("{" + name + ": " + bounds + "}")
            self.right('{list: "any", size: ' + bounds + "}")
        for bounds in ("[-1, no]", "[no, -1]", "[-5, -3]", "[-300, 300]", "[3, -3]"):
            self.right("{number: " + bounds + "}")

    def test_records(self):
        self.right("{maybe: {}, must: {}, rest: no}")
        self.right('{maybe: {}, must: {}, rest: "any"}')
        self.right('{maybe: {a: "any"}, must: {b: "text"}, rest: no}')
        self.right('{maybe: {"A B": "any"}, must: {}, rest: no}')
        self.right('{maybe: {maybe: "any", must: {one: ["id"]}}, must: {rest: "id", use: "text"}, rest: {is: no}}')

    def test_one(self):
        self.right('{one: ["any"]}')
        self.right('{one: ["any", "any", {one: ["id", {one: [{is: 5}]}]}]}')

    def test_forms_within_forms(self):
        self.right('{list: {list: {list: "any", size: [0, 1]}, size: [no, no]}, size: [5, no]}')
        self.right('{list: {maybe: {a: {one: ["any", {text: [0, 5]}]}}, must: {}, rest: {number: [-1, 1]}}, size: [0, 9]}')
        self.check([0], form, within_lists(31, text("any")))

    def test_books(self):
        self.right('{forms: {}, start: "any"}')
        self.right('{forms: {a: "text"}, start: "any"}')
        self.right('{forms: {a: "text", b: {list: {use: "a"}, size: [no, no]}}, start: {use: "b"}}')
        self.right('{forms: {a: {use: "b"}, b: {use: "c"}, c: "id"}, start: {one: [{use: "a"}, {use: "b"}]}}')
        self.right('{forms: {forms: "any", start: {use: "forms"}}, start: {use: "start"}}')
        name = "n" * 255
        self.right("{forms: {" + name + ': "any"}, start: {use: "' + name + '"}}')
        self.right('{forms: {"\u00e4 \\"": "any"}, start: {use: "\u00e4 \\""}}')


def within_lists(levels, inner):
    """A form of lists within lists, so many."""
    made = inner
    for turn in range(levels):
        made = record(pair("list", made), pair("size", some_list(NO, NO)))
    return made


class NoForms(FormCase):
    def test_alone(self):
        for words in NO_FORMS:
            self.wrong(0, words)

    def test_bounds(self):
        for bounds in NO_BOUNDS:
            for name in ("number", "bytes", "text"):
                self.wrong(0, "{" + name + ": " + bounds + "}")
            self.wrong(0, '{list: "any", size: ' + bounds + "}")

    def test_sizes_below_0(self):
        for bounds in ("[-1, no]", "[no, -1]", "[-1, 5]", "[0, -300]", "[-2, -1]"):
            for name in ("bytes", "text"):
                self.wrong(0, "{" + name + ": " + bounds + "}")
            self.wrong(0, '{list: "any", size: ' + bounds + "}")

    def test_at_each_place_where_a_form_should_be(self):
        for words in NO_FORMS:
            self.wrong_at("{list: ^" + words + ", size: [0, 1]}")
            self.wrong_at("{maybe: {a: ^" + words + "}, must: {}, rest: no}")
            self.wrong_at('{maybe: {a: "any"}, must: {b: "id", c: ^' + words + "}, rest: no}")
            self.wrong_at('{one: ["any", ^' + words + "]}")
            self.wrong_at("{forms: {a: ^" + words + '}, start: "any"}')
            self.wrong_at('{forms: {a: "any"}, start: ^' + words + "}")
            if words != "no":
                self.wrong_at('{maybe: {a: "any"}, must: {}, rest: ^' + words + "}")

    def test_what_looks_like_a_book(self):
        for words in ("{forms: no, start: \"any\"}", '{forms: [], start: "any"}', '{forms: "any", start: "any"}',
                      '{forms: {}, start: "any", z: no}', '{a: no, forms: {}, start: "any"}',
                      '{forms: {a: "any"}, starts: "any"}', '{form: {}, start: "any"}', '{forms: 5, start: no}'):
            self.wrong(0, words)

    def test_a_book_within_a_book(self):
        self.wrong_at('{forms: {}, start: ^{forms: {}, start: "any"}}')
        self.wrong_at('{forms: {a: ^{forms: {}, start: "any"}}, start: "any"}')
        self.wrong_at('{one: [^{forms: {}, start: "any"}]}')

    def test_what_is_within_is_looks_like_anything(self):
        self.right('{is: {use: "nowhere"}}')
        self.right("{is: {one: []}}")
        self.right("{one: [{is: no}, {is: {list: no, size: no}}]}")

    def test_deep_ones(self):
        self.check([-5, 31 * 7], form, within_lists(31, NO))
        self.check([-5, 15 * 7], form, within_lists(15, row("{one: []}")))


class UsesWithoutTheirNames(FormCase):
    def test_without_names(self):
        self.wrong(0, '{use: "a"}')
        self.wrong_at('{list: ^{use: "a"}, size: [0, 1]}')
        self.wrong_at('{one: ["any", ^{use: "use"}]}')

    def test_in_the_start(self):
        self.wrong_at('{forms: {}, start: ^{use: "a"}}')
        self.wrong_at('{forms: {a: "any"}, start: ^{use: "b"}}')
        self.wrong_at('{forms: {a: "any"}, start: ^{use: "A"}}')
        self.wrong_at('{forms: {a: "any"}, start: ^{use: "aa"}}')
        self.wrong_at('{forms: {aa: "any"}, start: ^{use: "a"}}')
        self.wrong_at('{forms: {a: "any"}, start: ^{use: "start"}}')
        self.wrong_at('{forms: {a: {maybe: {b: "any"}, must: {}, rest: no}}, start: ^{use: "b"}}')

    def test_in_a_form_under_a_name(self):
        self.wrong_at('{forms: {a: ^{use: "c"}, b: "any"}, start: {use: "b"}}')
        self.wrong_at('{forms: {a: "any", b: {one: ["id", ^{use: "c"}]}}, start: {use: "b"}}')
        self.wrong_at('{forms: {a: {maybe: {}, must: {x: ^{use: "c"}}, rest: no}}, start: {use: "a"}}')
        self.wrong_at('{forms: {a: {maybe: {}, must: {}, rest: ^{use: "c"}}}, start: {use: "a"}}')


class Rings(FormCase):
    def test_of_one_use(self):
        self.wrong_at('{forms: {a: ^{use: "a"}}, start: "any"}')
        self.wrong_at('{forms: {a: "any", b: ^{use: "b"}, c: {use: "c"}}, start: "any"}')

    def test_of_two_and_more(self):
        self.wrong_at('{forms: {a: ^{use: "b"}, b: {use: "a"}}, start: "any"}')
        self.wrong_at('{forms: {a: ^{use: "c"}, b: {use: "a"}, c: {use: "b"}}, start: "any"}')
        self.wrong_at('{forms: {a: ^{use: "d"}, b: {use: "c"}, c: {use: "a"}, d: {use: "b"}}, start: {use: "a"}}')

    def test_by_members_of_one(self):
        self.wrong_at('{forms: {a: ^{one: ["any", {use: "a"}]}}, start: "any"}')
        self.wrong_at('{forms: {a: ^{one: [{one: [{one: ["id", {use: "a"}]}]}]}}, start: "any"}')
        self.wrong_at('{forms: {a: ^{one: ["any", {use: "b"}]}, b: {one: ["id", {use: "a"}]}}, start: "any"}')
        self.wrong_at('{forms: {a: ^{use: "b"}, b: {one: [{use: "c"}, {use: "a"}]}, c: "any"}, start: "any"}')

    def test_the_first_name_that_comes_back_to_itself(self):
        # What leads to a ring and is not in it is not at fault.
        self.wrong_at('{forms: {a: {use: "b"}, b: ^{use: "c"}, c: {use: "b"}}, start: "any"}')
        self.wrong_at('{forms: {a: {use: "c"}, b: {use: "a"}, c: ^{use: "c"}}, start: {use: "b"}}')
        self.wrong_at('{forms: {a: {one: [{use: "b"}, {use: "d"}]}, b: {use: "e"}, c: ^{use: "d"}, d: {use: "c"}, '
                      'e: {use: "e"}}, start: "any"}')
        # Between two rings, in neither.
        self.wrong_at('{forms: {a: {use: "c"}, b: ^{one: [{use: "a"}, {use: "b"}]}, c: {use: "c"}}, start: "any"}')

    def test_a_start_that_leads_into_a_ring(self):
        self.wrong_at('{forms: {b: ^{use: "b"}}, start: {use: "b"}}')
        self.wrong_at('{forms: {b: ^{use: "b"}}, start: {one: [{use: "b"}]}}')

    def test_no_ring(self):
        for inner in ('{list: {use: "a"}, size: [no, no]}', '{maybe: {x: {use: "a"}}, must: {}, rest: no}',
                      '{maybe: {}, must: {x: {use: "a"}}, rest: no}', '{maybe: {}, must: {}, rest: {use: "a"}}',
                      '{one: ["any", {list: {use: "a"}, size: [0, 1]}]}', '{list: {one: [{use: "a"}]}, size: [1, 1]}',
                      '{is: {use: "a"}}'):
            self.right("{forms: {a: " + inner + '}, start: {use: "a"}}')
            self.right("{forms: {a: " + inner + ', b: {use: "a"}}, start: {use: "b"}}')
            self.right('{forms: {a: {use: "b"}, b: ' + inner + '}, start: {use: "a"}}')
            self.right('{forms: {a: {one: [{use: "b"}, "id"]}, b: ' + inner + '}, start: "any"}')

    def test_ways_that_part_and_meet(self):
        self.right('{forms: {a: {one: [{use: "b"}, {use: "c"}]}, b: {use: "d"}, c: {use: "d"}, d: "any"}, '
                   'start: {use: "a"}}')
        self.right('{forms: {a: {one: [{use: "d"}, {use: "d"}]}, b: {use: "a"}, c: {one: [{use: "a"}, {use: "b"}]}, '
                   'd: "any"}, start: {use: "c"}}')


class TheFirst(FormCase):
    def test_of_two_in_order(self):
        self.wrong_at("{one: [^no, no]}")
        self.wrong_at('{one: ["any", ^{one: []}, {one: []}]}')
        self.wrong_at("{maybe: {a: ^no}, must: {b: no}, rest: yes}")
        self.wrong_at('{maybe: {}, must: {b: ^no}, rest: yes}')
        self.wrong_at('{forms: {a: ^no, b: no}, start: no}')
        self.wrong_at('{forms: {a: "any", b: ^no}, start: no}')

    def test_the_outer_one_first(self):
        self.wrong_at("^{list: no, size: [no]}")
        self.wrong_at("{one: [^{list: no, size: [no]}]}")
        self.wrong_at('^{maybe: {a: no}, must: {a: no}, rest: yes}')
        self.wrong_at('^{maybe: {a: no}, must: [], rest: no}')
        self.wrong_at('^{one: [no], two: no}')

    def test_what_is_within_before_what_is_behind(self):
        self.wrong_at('{one: [{one: ["any", {one: [^no]}]}, no]}')
        self.wrong_at('{forms: {a: {list: {list: ^no, size: [0, 1]}, size: [0, 1]}, b: no}, start: no}')

    def test_no_form_and_no_name_by_their_places(self):
        self.wrong_at('{one: [^{use: "a"}, no]}')
        self.wrong_at('{one: [^no, {use: "a"}]}')
        self.wrong_at('{forms: {a: ^{use: "c"}, b: no}, start: "any"}')
        self.wrong_at('{forms: {a: ^no, b: {use: "c"}}, start: "any"}')

    def test_rings_last(self):
        self.wrong_at('{forms: {a: {use: "a"}, b: ^no}, start: "any"}')
        self.wrong_at('{forms: {a: {use: "a"}}, start: ^no}')
        self.wrong_at('{forms: {a: {use: "a"}, b: {use: "b"}}, start: {one: ["any", ^{use: "c"}]}}')
        self.wrong_at('{forms: {a: "any", b: ^{use: "b"}, c: {use: "c"}}, start: "any"}')


class Refused(FormCase):
    def test_no_values_bytes(self):
        for wrong in NO_VALUES:
            self.check([-6], form, wrong)


if __name__ == "__main__":
    unittest.main()
