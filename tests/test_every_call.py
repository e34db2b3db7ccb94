"""Each of the seventeen calls: with inputs as long and as deep as may be, unchanged, with nothing kept."""

import ast
import inspect
import pathlib
import random
import unittest

import making
import onevalues
from making import (NO, YES, add_step, identity, long_record, number, pair, path, put_step, record, row, some_bytes,
                    some_list, some_text, take_step, text, vary, within)
from onevalues import values

LONGEST = 65536
MANY = LONGEST - 4
FAR = 10 ** 18
ARGUMENTS = {
    "judge": ["v"], "about": ["v"], "member": ["i", "v"], "order": ["a", "b"], "text": ["v"], "read": ["t"],
    "get": ["v", "p"], "put": ["v", "p", "x"], "take": ["v", "p"], "add": ["v", "p", "x"], "patch": ["v", "p"],
    "differ": ["a", "b"], "number": ["op", "a", "b"], "form": ["f"], "fits": ["v", "f"], "vary": ["n"], "unvary": ["b"],
}
# Those arguments that are whole numbers.
WHOLE = ("i", "op", "n")

LONG_LIST = [5] + vary(MANY) + [0] * MANY
LONG_RECORD = long_record()
LONG_BYTES = some_bytes([7] * MANY)
LONG_TEXT = some_text([97] * MANY)
DEEP_LIST = within(63, NO)
DEEP_RECORD = [6, 1, 1, 97] * 63 + NO
LONG_AND_DEEP = [5] + vary((LONGEST - 3) // 125) + within(62, NO) * ((LONGEST - 3) // 125)
TOO_DEEP = [within(64, NO), [6, 1, 1, 97] * 64 + NO, [5, 1] * 32768, [6, 1, 1, 97] * 16384]
VALUES = [LONG_LIST, LONG_RECORD, LONG_BYTES, LONG_TEXT, DEEP_LIST, DEEP_RECORD, LONG_AND_DEEP]
DEEP_STEPS = [0] * 63


def words_of(told):
    return list(told.encode())


class Interface(unittest.TestCase):
    def test_names_and_arguments(self):
        for name, arguments in ARGUMENTS.items():
            self.assertEqual(list(inspect.signature(getattr(values, name)).parameters), arguments)

    def test_nothing_is_imported_but_the_package_itself(self):
        for file in pathlib.Path(onevalues.__file__).parent.glob("*.py"):
            for node in ast.walk(ast.parse(file.read_text(encoding="utf-8"))):
                self.assertNotIsInstance(node, ast.Import)
                if isinstance(node, ast.ImportFrom):
                    self.assertTrue(node.module.startswith("onevalues."))


class AsLongAndDeepAsMayBe(making.CallCase):
    def test_judge_and_about(self):
        for value, told in ((LONG_LIST, [5, MANY, 2]), (LONG_RECORD, [6, 10922, 2]), (LONG_BYTES, [3, MANY, 1]),
                            (LONG_TEXT, [4, MANY, 1]), (DEEP_LIST, [5, 1, 64]), (DEEP_RECORD, [6, 1, 64]),
                            (LONG_AND_DEEP, [5, 524, 64])):
            self.check([0], values.judge, value)
            self.check([0] + told, values.about, value)

    def test_member(self):
        self.check([0, 0, 0, LONGEST - 1, 1], values.member, MANY - 1, LONG_LIST)
        self.check([0, 0, 0, 2, 125], values.member, 0, DEEP_LIST)
        self.check([0, 3, 1, 4, 249], values.member, 0, DEEP_RECORD)
        for value in VALUES:
            for i in (-FAR, -1, MANY, FAR):
                self.check([-4], values.member, i, value)

    def test_order(self):
        for i, a in enumerate(VALUES):
            self.check([0], values.order, a, list(a))
            for b in VALUES[i + 1:]:
                if a[0] != b[0]:
                    self.check([1] if a[0] < b[0] else [2], values.order, a, b)
        self.check([1], values.order, LONG_LIST, LONG_LIST[:-1] + YES)
        self.check([2], values.order, within(63, YES), DEEP_LIST)
        self.check([1], values.order, LONG_AND_DEEP, LONG_AND_DEEP[:-1] + YES)

    def test_text_and_read(self):
        for value in VALUES:
            told = self.answer(values.text, value)
            self.check([0] + value, values.read, told[1:])
        self.check([0] + LONG_LIST[:1] + vary(16384) + [0] * 16384, values.read, words_of("[" + "no, " * 16383 + "no]"))
        self.check([0] + DEEP_LIST, values.read, words_of("[" * 63 + "no" + "]" * 63))
        self.check([-6, 7, 64], values.read, words_of("[" * LONGEST))
        self.check([-6, 7, 64 * 4], values.read, words_of("{a: " * (LONGEST // 4)))
        self.check([-6, 1, LONGEST], values.read, words_of('"' + "a" * (LONGEST - 1)))
        self.check([-6, 4, 0], values.read, words_of("9" * LONGEST))

    def test_get(self):
        self.check([0, LONGEST - 1, 1], values.get, LONG_LIST, path(MANY - 1))
        self.check([0, 126, 1], values.get, DEEP_LIST, path(*DEEP_STEPS))
        self.check([0, 252, 1], values.get, DEEP_RECORD, path(*["a"] * 63))
        self.check([0, len(LONG_AND_DEEP) - 1, 1], values.get, LONG_AND_DEEP, path(523, *[0] * 62))
        for value in VALUES:
            self.check([0, 0, len(value)], values.get, value, path())
            self.check([-5], values.get, value, LONG_LIST)
            self.check([-4, 0], values.get, value, [5] + vary(16383) + [4, 2, 122, 122] * 16383)

    def test_put_take_and_add(self):
        self.check([0] + LONG_LIST[:-1] + LONG_TEXT, values.put, LONG_LIST, path(MANY - 1), LONG_TEXT)
        self.check([0, 5] + vary(MANY + 1) + LONG_RECORD + LONG_LIST[4:], values.add, LONG_LIST, path(0), LONG_RECORD)
        self.check([0, 5] + vary(MANY - 1) + LONG_LIST[5:], values.take, LONG_LIST, path(0))
        self.check([0] + within(63, YES), values.put, DEEP_LIST, path(*DEEP_STEPS), YES)
        self.check([0] + within(62, some_list(YES, NO)), values.add, DEEP_LIST, path(*DEEP_STEPS), YES)
        self.check([0] + within(62, some_list()), values.take, DEEP_LIST, path(*DEEP_STEPS))
        for call in (values.put, values.add):
            self.check([-9], call, DEEP_LIST, path(*DEEP_STEPS), some_list(NO))
            self.check([-9], call, some_list(NO), path(0), DEEP_LIST)
            self.check([-5], call, LONG_LIST, LONG_RECORD, LONG_BYTES)

    def test_patch(self):
        many = 4680
        steps = [5] + vary(many) + put_step([0], YES) * many
        self.assertLessEqual(len(steps), LONGEST)
        self.check([0] + LONG_LIST[:4] + YES + LONG_LIST[5:], values.patch, LONG_LIST, steps)
        self.check([-4, 0], values.patch, LONG_RECORD, steps)
        self.check([-5, 0], values.patch, LONG_RECORD, LONG_LIST)
        self.check([0] + within(63, YES), values.patch, DEEP_LIST, some_list(put_step(DEEP_STEPS, YES)))
        self.check([-9, 0], values.patch, DEEP_LIST, some_list(add_step(DEEP_STEPS, some_list(NO))))
        self.check([0] + within(62, some_list()), values.patch, DEEP_LIST, some_list(take_step(*DEEP_STEPS)))
        self.check([0] + within(61, NO), values.patch, LONG_TEXT, some_list(put_step([], within(61, NO))))

    def test_differ(self):
        for value in VALUES:
            self.check([0, 5, 0], values.differ, value, list(value))
            told = self.answer(values.differ, NO, value)
            if value in (DEEP_LIST, DEEP_RECORD, LONG_AND_DEEP):
                self.assertEqual(told, [-9])
            else:
                self.assertEqual(told, [0] + some_list(put_step([], value)))
        self.check([0] + some_list(put_step(DEEP_STEPS, YES)), values.differ, DEEP_LIST, within(63, YES))
        self.check([0] + some_list(put_step([MANY - 1], YES)), values.differ, LONG_LIST, LONG_LIST[:-1] + YES)

    def test_number(self):
        greatest = number(256 ** 4096 - 1)
        for op in range(10):
            for value in VALUES:
                self.check([-5], values.number, op, value, greatest)
                self.check([-5], values.number, op, greatest, value)
        for op in (-FAR, -1, 10, FAR):
            for value in VALUES:
                self.check([-1], values.number, op, value, value)
        self.check([0] + greatest, values.number, 6, greatest, greatest)
        self.check([-9], values.number, 0, greatest, greatest)

    def test_form(self):
        for value in VALUES:
            self.check([-5, 0], values.form, value)
            if value not in (DEEP_LIST, DEEP_RECORD, LONG_AND_DEEP):
                self.check([0], values.form, record(pair("is", value)))
        members = [4, 3, 97, 110, 121] * 13000
        self.check([0], values.form, [6, 1, 3, 111, 110, 101, 5] + vary(13000) + members)
        deep = text("any")
        for turn in range(63):
            deep = record(pair("maybe", record()), pair("must", record()), pair("rest", deep))
        self.check([0], values.form, deep)
        self.check([-5, len(deep) - 5], values.form, deep[:-5] + YES)

    def test_fits(self):
        tree = row('{forms: {t: {one: ["yesno", {list: {use: "t"}, size: [no, no]}, {maybe: {}, must: {}, '
                   'rest: {use: "t"}}]}}, start: {use: "t"}}')
        for value in VALUES:
            self.check([1], values.fits, value, text("any"))
            self.check([0, 0] if value[0] in (3, 4) else [1], values.fits, value, tree)
            self.check([-5], values.fits, value, value)
            self.check([0, 0], values.fits, value, record(pair("is", LONG_BYTES[:1] + vary(60000) + [8] * 60000)))
        lists = row('{forms: {t: {list: {use: "t"}, size: [no, no]}}, start: {use: "t"}}')
        self.check([0, 126], values.fits, DEEP_LIST, lists)
        self.check([0, 3 + 124], values.fits, LONG_AND_DEEP, lists)

    def test_vary_and_unvary(self):
        for n in (-FAR, -1, 2 ** 32, FAR):
            self.check([-1], values.vary, n)
        self.check([0, 255, 255, 255, 255, 15], values.vary, 2 ** 32 - 1)
        for value in VALUES:
            self.check([0, value[0], 1], values.unvary, value)
        self.check([-6], values.unvary, [255] * LONGEST)
        self.check([0, 2 ** 32 - 1, 5], values.unvary, [255, 255, 255, 255, 15] * 13107)

    def test_what_is_too_deep(self):
        for wrong in TOO_DEEP:
            for name, arguments in ARGUMENTS.items():
                for i, argument in enumerate(arguments):
                    if name not in ("read", "vary", "unvary") and argument not in WHOLE:
                        handed = [0 if one in WHOLE else some_list() for one in arguments]
                        handed[i] = wrong
                        told = self.answer(getattr(values, name), *handed)
                        self.assertEqual(told[0], -6, name)
                        self.assertEqual(len(told), 3 if name == "judge" else 1)


class AnythingAtAll(making.CallCase):
    """Rows of any bytes: each call answers as it should in form, changes nothing, and answers the same again."""

    def arguments(self, source, name):
        rows = [making.made(source, 3), making.spoilt(source, making.made(source, 3)), making.made(source, 5),
                row('"any"'), path(0), path("a"), [5, 0], number(source.randrange(-9, 9)),
                list(source.randbytes(source.randrange(6))), words_of('{a: [1, x"00"]}'), some_list(put_step([], NO))]
        return [source.choice([-1, 0, 1, 5, 10, source.randrange(-FAR, FAR)]) if one in WHOLE
                else source.choice(rows) for one in ARGUMENTS[name]]

    def test_answers_of_the_right_form(self):
        # Beside a refusal stand as many numbers as are told with it.
        beside = {"judge": {-6: 2}, "read": {-6: 2}, "get": {-4: 1}, "put": {-4: 1}, "take": {-4: 1}, "add": {-4: 1},
                  "patch": {-5: 1, -4: 1, -9: 1}, "form": {-5: 1}}
        lengths = {"judge": 1, "about": 4, "member": 5, "order": 1, "get": 3, "form": 1, "unvary": 3}
        source = random.Random(90)
        for turn in range(500):
            for name in ARGUMENTS:
                told = self.answer(getattr(values, name), *self.arguments(source, name))
                if told[0] < 0:
                    self.assertEqual(len(told), 1 + beside.get(name, {}).get(told[0], 0), name)
                    self.assertIn(told[0], (-1, -4, -5, -6, -9))
                elif name in lengths:
                    self.assertEqual(len(told), lengths[name], name)
                elif name == "fits":
                    self.assertEqual(len(told), 2 - told[0])
                elif name not in ("text", "vary"):
                    self.assertEqual(values.judge(told[1:]), [0], name)

    def test_in_any_order_they_answer_the_same(self):
        source = random.Random(91)
        calls = [(name, self.arguments(source, name)) for name in ARGUMENTS for turn in range(20)]
        first = [getattr(values, name)(*handed) for name, handed in calls]
        for turn in range(3):
            mixed = source.sample(range(len(calls)), len(calls))
            for i in mixed:
                name, handed = calls[i]
                self.assertEqual(getattr(values, name)(*handed), first[i])

    def test_what_is_given_back_is_the_callers_own(self):
        source = random.Random(92)
        for name in ARGUMENTS:
            for turn in range(50):
                handed = self.arguments(source, name)
                before = [list(one) if isinstance(one, list) else one for one in handed]
                told = getattr(values, name)(*handed)
                again = list(told)
                told.extend([7, 7])
                told[0] = 99
                self.assertEqual(handed, before)
                self.assertEqual(getattr(values, name)(*handed), again)


class Identities(making.CallCase):
    def test_bytes_that_may_stand_in_two_arguments(self):
        """One and the same list handed in twice."""
        for value in [some_list(NO, number(0)), record(pair("a", NO)), path(0), path("a", 1), identity([1] * 32)]:
            self.assertEqual(values.order(value, value), [0])
            self.assertEqual(values.differ(value, value), [0, 5, 0])
            self.assertEqual(values.put(value, path(), value), [0] + value)
            before = list(value)
            values.put(value, value, value)
            values.add(value, value, value)
            values.patch(value, value)
            values.fits(value, value)
            self.assertEqual(value, before)


if __name__ == "__main__":
    unittest.main()
