import unittest
from unittest import mock

import making
from making import (ATOMS, NO, NO_PATHS, NO_VALUES, YES, add_step, number, pair, path, put_step, record, row, some_list,
                    some_bytes, take_step, text, vary, within)
from onevalues import changes
from onevalues.values import patch

LONGEST_VALUE = 16777216
LONG = some_bytes([7] * 500)


# No steps of a patch, each for another reason.
NO_STEPS = [*ATOMS, some_list(), some_list(NO), path("at", "put"), *making.rows(
    "{}",
    "{at: []}", "{put: no}", "{take: yes}", "{add: no}", "{at: [], get: no}", "{at: [], puts: no}", "{at: [], pu: no}",
    '{"At": [], put: no}', '{"Put": no, at: []}', "{at_: [], put: no}", "{ad: no, at: []}",
    "{at: [], put: no, take: yes}", "{add: no, at: [], put: no}", "{add: no, at: [], take: yes}",
    "{add: no, at: [], put: no, take: yes}", "{at: [], put: no, z: no}", "{a: no, at: [], put: no}",
    "{at: [0], b: no, take: yes}", "{add: no, at: [0], z: no}", "{add: no, put: no}", "{put: no, take: yes}",
    "{at: [0], take: no}", "{at: [0], take: 1}", '{at: [0], take: "yes"}', "{at: [0], take: [yes]}",
    "{at: [0], take: {}}", "{at: [0], take: x\"01\"}", "{at: [0], take: @1}",
)]


class PatchCase(making.CallCase):
    def came(self, expected, value, *steps):
        self.check([0] + row(expected), patch, row(value), some_list(*steps))

    def told(self, expected, value, steps):
        """As came, with the patch told as a text; or a refusal."""
        answer = [0] + row(expected) if isinstance(expected, str) else expected
        self.check(answer, patch, row(value), row(steps))


class EachStep(PatchCase):
    def test_none(self):
        for value in [*ATOMS, some_list(NO), record(pair("a", NO)), within(63, NO), within(63, [5, 0])]:
            self.check([0] + value, patch, value, some_list())

    def test_put(self):
        self.told("[1, 5, 3]", "[1, 2, 3]", "[{at: [1], put: 5}]")
        self.told("[1, 2, 3, 5]", "[1, 2, 3]", "[{at: [3], put: 5}]")
        self.told("{a: 5, b: 2}", "{a: 1, b: 2}", '[{at: ["a"], put: 5}]')
        self.told("{a: 1, b: 2, c: 5}", "{a: 1, b: 2}", '[{at: ["c"], put: 5}]')
        self.told("{a: [1, {b: [no, 7]}]}", "{a: [1, {b: [no, yes]}]}", '[{at: ["a", 1, "b", 1], put: 7}]')

    def test_take(self):
        self.told("[1, 3]", "[1, 2, 3]", "[{at: [1], take: yes}]")
        self.told("{b: 2}", "{a: 1, b: 2}", '[{at: ["a"], take: yes}]')
        self.told("{a: [1, {b: [no]}]}", "{a: [1, {b: [no, yes]}]}", '[{at: ["a", 1, "b", 1], take: yes}]')

    def test_add(self):
        self.told("[5, 1, 2]", "[1, 2]", "[{add: 5, at: [0]}]")
        self.told("[1, 5, 2]", "[1, 2]", "[{add: 5, at: [1]}]")
        self.told("[1, 2, 5]", "[1, 2]", "[{add: 5, at: [2]}]")
        self.told("{a: [1, {b: [no, 5, yes]}]}", "{a: [1, {b: [no, yes]}]}", '[{add: 5, at: ["a", 1, "b", 1]}]')

    def test_at_the_empty_path(self):
        for value in [*ATOMS, some_list(NO), record(pair("a", NO)), within(63, NO)]:
            for x in [*ATOMS, some_list(), record(pair("a", NO)), within(61, NO)]:
                self.check([0] + x, patch, value, some_list(put_step([], x)))
            self.check([-4, 0], patch, value, some_list(take_step()))
            self.check([-4, 0], patch, value, some_list(add_step([], NO)))

    def test_what_comes_out_empty(self):
        self.told("[]", "[1]", "[{at: [0], take: yes}]")
        self.told("{}", "{a: 1}", '[{at: ["a"], take: yes}]')
        self.told("[[]]", "[[1]]", "[{at: [0, 0], take: yes}]")
        self.told("[]", "[1, 2, 3]", "[{at: [2], take: yes}, {at: [0], take: yes}, {at: [0], take: yes}]")
        self.told("{a: {}}", "{a: {b: 1, c: 2}}", '[{at: ["a", "b"], take: yes}, {at: ["a", "c"], take: yes}]')
        self.told("[]", "no", "[{at: [], put: []}]")
        self.told('""', "no", '[{at: [], put: ""}]')


class OneBehindAnother(PatchCase):
    def test_each_works_on_what_the_one_before_left(self):
        self.told("[3, 1, 2]", "[]", "[{add: 1, at: [0]}, {add: 2, at: [1]}, {add: 3, at: [0]}]")
        self.told("[2]", "[1]", "[{at: [1], put: 2}, {at: [0], take: yes}]")
        self.told("{a: [{b: 1}]}", "no", '[{at: [], put: {}}, {at: ["a"], put: []}, {add: {}, at: ["a", 0]}, '
                                         '{at: ["a", 0, "b"], put: 1}]')
        self.told("[4]", "[1]", "[{at: [0], put: 2}, {at: [0], put: 3}, {at: [0], put: 4}]")
        self.told("[1, 2, 3]", "[1, 2, 3]", "[{at: [1], take: yes}, {add: 2, at: [1]}]")

    def test_into_what_was_put(self):
        self.told('{a: {b: [1, 2, 5], c: "x"}}', "{}", '[{at: ["a"], put: {b: [1, 2]}}, {at: ["a", "b", 2], put: 5}, '
                                                       '{at: ["a", "c"], put: "x"}]')
        self.told("[{a: 1, b: [7]}]", "[no]", '[{at: [0], put: {a: 1, b: [], c: 3}}, {at: [0, "c"], take: yes}, '
                                              '{add: 7, at: [0, "b", 0]}]')

    def test_the_same_value_put_twice_is_two(self):
        self.told("{a: [1, 2], b: [1]}", "{}", '[{at: ["a"], put: [1]}, {at: ["b"], put: [1]}, {at: ["a", 1], put: 2}]')
        self.told("[[], [1]]", "[]", "[{add: [], at: [0]}, {add: [], at: [0]}, {at: [1, 0], put: 1}]")

    def test_new_names_stand_in_order(self):
        names = ["b", "a", "ab", "c", "aa", "B", "\u00e4"]
        steps = [put_step([name], number(i)) for i, name in enumerate(names)]
        expected = sorted(zip(names, range(7)), key=lambda item: item[0].encode())
        self.check([0] + record(*[pair(name, number(i)) for name, i in expected]), patch, record(), some_list(*steps))
        steps += [take_step(name) for name in names[:6]]
        self.check([0] + record(pair("\u00e4", number(6))), patch, record(), some_list(*steps))

    def test_a_name_that_stays_and_one_that_comes_again(self):
        self.told("{a: 3}", "{a: 1}", '[{at: ["a"], take: yes}, {at: ["a"], put: 3}]')
        self.told("{a: 3, b: no}", "{a: 1, b: no}", '[{at: ["a"], put: 2}, {at: ["a"], put: 3}]')

    def test_where_the_count_takes_another_byte_and_gives_it_back(self):
        for many in (126, 127, 128, 129):
            members = [number(k) for k in range(many)]
            steps = [add_step([0], NO), add_step([many + 1], YES), add_step([5], NO)]
            more = [NO, *members[:4], NO, *members[4:], YES]
            self.check([0] + some_list(*more), patch, some_list(*members), some_list(*steps))
            steps += [take_step(5), take_step(0), take_step(many)]
            self.check([0] + some_list(*members), patch, some_list(*members), some_list(*steps))


class NoStep(PatchCase):
    def test_no_list(self):
        for wrong in [*ATOMS, record(), put_step([], NO)]:
            for value in (NO, some_list(NO)):
                self.check([-5, 0], patch, value, wrong)

    def test_alone(self):
        for wrong in NO_STEPS:
            self.check([-5, 0], patch, some_list(NO), some_list(wrong))

    def test_first_in_the_middle_last(self):
        good = [put_step([0], YES), take_step(0), add_step([0], NO)]
        for wrong in NO_STEPS:
            for i in range(4):
                self.check([-5, i], patch, some_list(NO), some_list(*good[:i], wrong, *good[i:]))

    def test_the_first_of_two(self):
        good = put_step([0], YES)
        for wrong in NO_STEPS[::5]:
            self.check([-5, 1], patch, some_list(NO), some_list(good, wrong, good, wrong))
            self.check([-5, 0], patch, some_list(NO), some_list(wrong, wrong))

    def test_before_a_step_that_cant_be_done(self):
        cant = [take_step(7), put_step([0, 0], NO), add_step(["a"], NO), take_step()]
        deep = put_step([0] * 2 + [5], within(61, NO))
        for wrong in NO_STEPS:
            self.check([-5, 4], patch, some_list(NO), some_list(*cant, wrong))
            self.check([-5, 1], patch, some_list(some_list()), some_list(put_step([0, 0], within(61, NO)), wrong))
        self.check([-5, 2], patch, NO, some_list(deep, cant[0], NO))

    def test_an_at_that_is_no_path(self):
        for wrong in NO_PATHS:
            for step in (record(pair("at", wrong), pair("put", NO)), record(pair("at", wrong), pair("take", YES)),
                         record(pair("add", NO), pair("at", wrong))):
                self.check([-5, 0], patch, some_list(NO), some_list(step))
                self.check([-5, 1], patch, NO, some_list(put_step([], some_list()), step, NO))


class CantBeDone(PatchCase):
    def test_its_number(self):
        good = [put_step([0], YES), add_step([1], NO), take_step(1)]
        cant = [take_step(1), take_step(), take_step("a"), put_step([2], NO), put_step(["a"], NO), put_step([-1], NO),
                add_step([2], NO), add_step([], NO), add_step(["a"], NO), add_step([-1], NO), put_step([0, 0], NO),
                add_step([0, 0], NO), take_step(0, 0)]
        for wrong in cant:
            for many in range(4):
                self.check([-4, 3 * many], patch, some_list(NO), some_list(*good * many, wrong, *good, wrong))

    def test_what_could_be_done_before(self):
        self.told([-4, 1], "[1]", "[{at: [0], take: yes}, {at: [0], take: yes}]")
        self.told([-4, 2], "{a: 1}", '[{at: ["a"], put: 2}, {at: ["a"], take: yes}, {at: ["a"], take: yes}]')
        self.told([-4, 1], "[[1]]", "[{at: [0], put: 5}, {at: [0, 0], put: 5}]")
        self.told([-4, 1], "[[1]]", "[{at: [], put: 5}, {at: [0], put: 5}]")
        self.told([0, 2, 2, 5], "[[1]]", "[{at: [], put: 5}]")

    def test_names_that_are_none(self):
        for name in ("", "a" * 256, "\u00e4" * 128):
            self.check([-4, 0], patch, record(), some_list(put_step([name], NO)))
            self.check([-4, 1], patch, record(), some_list(put_step(["a"], record()), put_step(["a", name], NO)))
        self.check([0] + record(pair("a" * 255, NO)), patch, record(), some_list(put_step(["a" * 255], NO)))


class NoValue(PatchCase):
    def test_too_deep_with_its_number(self):
        for levels in (3, 30, 62, 63):
            value = within(levels, YES)
            fits = within(63 - levels, YES)
            deep = within(64 - levels, YES)
            for step in (put_step, add_step):
                self.assertEqual(patch(value, some_list(step([0] * levels, fits)))[0], 0)
                for many in range(3):
                    good = [put_step([0] * levels, NO)] * many
                    steps = [*good, step([0] * levels, deep), take_step(9)]
                    self.check([-9, many], patch, value, some_list(*steps))

    def test_behind_what_went_deeper_step_by_step(self):
        steps = [put_step([0] * i, some_list()) for i in range(64)]
        self.check([0] + within(63, some_list()), patch, NO, some_list(*steps))
        self.check([-9, 64], patch, NO, some_list(*steps, put_step([0] * 64, NO)))
        self.check([-9, 64], patch, NO, some_list(*steps, add_step([0] * 64, NO), take_step(9)))
        self.check([0] + within(62, some_list()), patch, NO, some_list(*steps, take_step(*[0] * 63)))

    def test_what_is_deep_and_goes_again_is_refused_all_the_same(self):
        value = within(63, some_list())
        self.check([-9, 0], patch, value, some_list(put_step([0] * 64, NO), put_step([], NO)))
        self.check([0] + NO, patch, value, some_list(put_step([], NO)))

    def test_which_of_4_and_9_comes_first(self):
        value = within(63, some_list())
        deep, cant = put_step([0] * 64, NO), take_step(9)
        self.check([-9, 0], patch, value, some_list(deep, cant))
        self.check([-4, 0], patch, value, some_list(cant, deep))
        self.check([-9, 1], patch, value, some_list(put_step([0] * 63, some_list()), deep, cant))
        # Of one step that can't be done and would be too deep besides: it can't be done.
        self.check([-4, 0], patch, value, some_list(put_step([0] * 63 + [1], within(61, NO))))
        self.check([-4, 0], patch, value, some_list(add_step([0] * 63 + [1], within(61, NO))))
        self.check([-4, 0], patch, value, some_list(add_step(["a"] * 64, within(61, NO))))

    def test_too_long(self):
        long = [3] + vary(LONGEST_VALUE // 2) + [0] * (LONGEST_VALUE // 2)
        left = LONGEST_VALUE - len(long) - 2
        fits = [3] + vary(left - 5) + [0] * (left - 5)
        self.assertEqual(len(fits), left)
        value = some_list(long)
        came = patch(value, some_list(put_step([1], fits)))
        self.assertEqual((len(came), came[:3]), (1 + LONGEST_VALUE, [0, 5, 2]))
        steps = [put_step([1], fits), put_step([2], NO), take_step(9)]
        self.assertEqual(patch(value, some_list(*steps)), [-9, 1])
        steps = [put_step([1], fits), put_step([1], NO), put_step([2], NO), take_step(2), add_step([0], fits)]
        self.assertEqual(patch(value, some_list(*steps)), [-9, 4])

    def test_what_was_taken_leaves_room(self):
        # As if a value's bytes were at most 1,000: what is counted is the same.
        with mock.patch.object(changes, "LONGEST_VALUE", 1000):
            for value, second, named in ((some_list(LONG), 1, 0), (record(pair("a" * 200, LONG)), "z", 2)):
                left = 1000 - len(value) - named
                fits, longer = [some_bytes([0] * (many - 3)) for many in (left, left + 1)]
                self.assertEqual(len(fits), left)
                steps = [put_step([second], fits), take_step(second), put_step([second], fits), take_step(second),
                         put_step([second], NO), put_step([second], fits)]
                self.assertEqual(len(patch(value, some_list(*steps))), 1 + 1000)
                self.check([-9, 4], patch, value, some_list(*steps[:4], put_step([second], longer)))
                self.check([-9, 5], patch, value, some_list(*steps[:5], put_step([second], longer)))

    def test_room_for_the_count(self):
        # The count of 128 members takes a byte more than that of 127.
        with mock.patch.object(changes, "LONGEST_VALUE", 1000):
            for many in (126, 127, 128):
                value = some_list(*[NO] * many)
                left = 1000 - len(some_list(*[NO] * (many + 1))) + 1
                fits, longer = [some_bytes([0] * (length - 3)) for length in (left, left + 1)]
                for step in (put_step, add_step):
                    self.assertEqual(len(patch(value, some_list(step([many], fits)))), 1 + 1000)
                    self.check([-9, 0], patch, value, some_list(step([many], longer)))
                    again = [step([many], fits), take_step(0), add_step([0], NO), take_step(many)]
                    self.assertEqual(len(patch(value, some_list(*again, step([many], fits)))), 1 + 1000)
                    self.check([-9, 4], patch, value, some_list(*again, step([many], longer)))


class Refused(PatchCase):
    def test_no_values_bytes(self):
        for wrong in NO_VALUES:
            self.check([-6], patch, wrong, some_list())
            self.check([-6], patch, NO, wrong)
            self.check([-6], patch, wrong, wrong)
            self.check([-6], patch, wrong, NO)
            self.check([-6], patch, wrong, some_list(take_step(9)))


class ValuesOfEachKind(PatchCase):
    def test_what_is_put_and_added(self):
        for x in [*ATOMS, some_list(), some_list(NO, text("a")), record(), record(pair("a", NO), pair("b", YES))]:
            self.check([0] + some_list(x, NO, x), patch, some_list(NO),
                       some_list(add_step([0], x), put_step([2], x)))
            self.check([0] + record(pair("add", x), pair("at", x), pair("put", x)), patch, record(),
                       some_list(*[put_step([name], x) for name in ("put", "at", "add")]))


if __name__ == "__main__":
    unittest.main()
