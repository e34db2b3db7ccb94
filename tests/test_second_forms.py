import random
import unittest

import making
from making import depth, made, row_of, spoilt
from onevalues.values import fits, form, judge
from second_forms import form_of, record_of, second_fits, second_form, some_book, some_form


def some_value(source, levels):
    return making.second_judge().judge(made(source, levels))


def changed(source, value):
    """The value with one that's within it, or itself, in the place of which another stands."""
    if value[0] not in (5, 6) or not value[1] or source.random() < 0.2:
        return some_value(source, 2)
    members = list(value[1])
    i = source.randrange(len(members))
    if value[0] == 5:
        members[i] = changed(source, members[i])
    else:
        members[i] = (members[i][0], changed(source, members[i][1]))
    return (value[0], tuple(members))


class AgainstSecondForms(unittest.TestCase):
    def form(self, row):
        told = form(row)
        self.assertEqual(told, second_form(row), making.text_of(making.second_judge().judge(row)))
        return told

    def fits(self, value, book):
        told = fits(value, book)
        words = [making.text_of(making.second_judge().judge(row)) for row in (value, book)]
        self.assertEqual(told, second_fits(value, book), words)
        return told

    def test_forms(self):
        source = random.Random(40)
        firsts = {}
        for turn in range(3000):
            told = self.form(row_of(some_book(source, some_form(source, 4), 5)))
            firsts[told[0]] = firsts.get(told[0], 0) + 1
        self.assertGreater(min(firsts[0], firsts[-5]), 300)

    def test_forms_in_which_something_else_stands(self):
        source = random.Random(41)
        places = set()
        for turn in range(4000):
            told = self.form(row_of(changed(source, some_book(source, some_form(source, 4), 5))))
            places.update(told[1:])
        self.assertGreater(len(places), 100)

    def test_forms_with_bytes_spoilt(self):
        source = random.Random(42)
        for turn in range(6000):
            row = spoilt(source, row_of(some_book(source, some_form(source, 4), 4)))
            if judge(row) == [0]:
                self.form(row)
            else:
                self.assertEqual(form(row), [-6])

    def test_any_values_as_books(self):
        source = random.Random(43)
        for turn in range(2000):
            self.form(made(source, 4))

    def test_values_against_forms_made_of_them(self):
        source = random.Random(44)
        firsts = {}
        for turn in range(4000):
            value = some_value(source, source.randrange(1, 5))
            told = self.fits(row_of(value), row_of(form_of(source, value, 0.05)))
            firsts[told[0]] = firsts.get(told[0], 0) + 1
            if told[0] == 1:
                told = self.fits(row_of(changed(source, value)), row_of(form_of(source, value, 0)))
        self.assertGreater(min(firsts[0], firsts[1]), 300)

    def test_values_against_books_made_of_them(self):
        source = random.Random(45)
        firsts = {}
        for turn in range(4000):
            value = some_value(source, source.randrange(1, 5))
            book = row_of(some_book(source, form_of(source, value, 0.2), 5))
            told = self.fits(row_of(value), book)
            firsts[told[0]] = firsts.get(told[0], 0) + 1
        self.assertEqual(set(firsts), {0, 1, -5})

    def test_values_that_were_changed(self):
        source = random.Random(46)
        within = 0
        for turn in range(4000):
            value = (0,)
            while value[0] not in (5, 6):
                value = some_value(source, source.randrange(2, 6))
            book = row_of(form_of(source, value, 0))
            told = self.fits(row_of(changed(source, value)), book)
            within += len(told) == 2 and told[1] > 0
        self.assertGreater(within, 300)

    def test_forms_that_come_back_to_themselves(self):
        source = random.Random(47)
        use = record_of(use=(4, "a"))
        size = (5, ((0,), (0,)))
        members = [record_of(list=use, size=size), (4, "number"), (4, "text"), (4, "yesno"),
                   record_of(maybe=(6, ()), must=(6, ()), rest=use),
                   record_of(list=record_of(one=(5, (use, (4, "bytes")))), size=size)]
        for turn in range(3000):
            inner = record_of(one=(5, tuple(source.sample(members, source.randrange(1, 7)))))
            book = row_of(record_of(forms=(6, (("a", inner),)), start=use))
            value = some_value(source, source.randrange(1, 6))
            self.assertLess(depth(value), 64)
            self.fits(row_of(value), book)


if __name__ == "__main__":
    unittest.main()
