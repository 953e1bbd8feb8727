"""Roots of forms."""

import time
import unittest

from bendsigns.errors import BadForm, TooMany
from bendsigns.forms import Form
from bendsigns.fours import Four
from bendsigns.leastforms import LeastForm
from bendsigns.localsigns import local_signs
from bendsigns.papers import Denial, Paper
from bendsigns.products import idle_form
from bendsigns.squares import NoRoot, RootOf, shows_root, square_root_of
from tests.helps import ODD_VALUES, Case, Looser, look_alike
from tests.products import least_table, own_product, reduced

TABLE = least_table(60)
CHANGES = ((1, 3, 0, 1), (2, 5, 1, 3), (0, -1, 1, 0), (7, -3, -2, 1))
NO_FORMS = ODD_VALUES + ((2, 1, 5), [2, 1, 5], "2 1 5", 5, Four((0, 0, 1, 1)), Looser(),
                         look_alike("Form", numbers=(2, 1, 5), side=3))
NINE = Form(9, 0, 16)


def roots(side):
    """For each least form's numbers of a side all roots, by their numbers."""
    found = {numbers: [] for numbers in TABLE[side]}
    for numbers in TABLE[side]:
        found[own_product(numbers, numbers)].append(numbers)
    return found


class Roots(Case):
    """square_root_of."""

    def test_all_least_forms(self):
        below = False
        for side in range(1, 61):
            for numbers, found in roots(side).items():
                told = square_root_of(Form(*numbers))
                if found:
                    self.assertEqual(told, RootOf(Form(*min(found))))
                    self.assert_true(bool(told))
                    below = below or told.form.numbers[1] < 0
                else:
                    barring = [by for by, sign in local_signs(Form(*numbers)) if sign == -1]
                    self.assertEqual(told.parts, (barring[0],))
                    self.assertIs(type(told), NoRoot)
                    self.assert_false(bool(told))
        self.assertTrue(below)

    def test_forms_that_are_not_least(self):
        for side in (12, 21, 40, 60):
            for numbers in TABLE[side]:
                form = Form(*numbers)
                for change in CHANGES:
                    self.assertEqual(square_root_of(form=form.changed(*change)), square_root_of(form))

    def test_which_number(self):
        self.assertEqual(square_root_of(Form(13, 5, 13)).by, 8)
        seen = set()
        for side in (24, 30, 60, 45):
            for numbers in TABLE[side]:
                told = square_root_of(Form(*numbers))
                if isinstance(told, NoRoot):
                    seen.add((side, told.by))
        self.assertEqual(seen, {(24, 8), (24, 3), (30, 3), (30, 5), (60, 8), (60, 3), (60, 5), (45, 3), (45, 5)})

    def test_errors(self):
        for value in NO_FORMS:
            self.assert_error(BadForm("form"), square_root_of, value)
        for side in (61, 100, 10 ** 59):
            self.assert_error(TooMany("side", 60), square_root_of, idle_form(side))


class Shown(Case):
    """shows_root."""

    def test_any_root(self):
        for side in range(1, 61):
            for numbers, found in roots(side).items():
                form = Form(*numbers)
                self.assert_true(shows_root(form=form, value=square_root_of(form)))
                for each in TABLE[side]:
                    self.assertIs(shows_root(form, RootOf(Form(*each))), each in found)

    def test_roots_that_are_not_least(self):
        for side in (12, 25, 60):
            for numbers, found in roots(side).items():
                for each in TABLE[side]:
                    for change in CHANGES:
                        root = Form(*each).changed(*change)
                        self.assertIs(shows_root(Form(*numbers).changed(*change[::-1]), RootOf(root)), each in found)

    def test_numbers(self):
        for side in range(1, 61):
            for numbers in TABLE[side]:
                form = Form(*numbers)
                signs = dict(local_signs(form))
                for by in (1, 2, 3, 4, 5, 7, 8, 9, 11, 13, 16, 47, 59, -3, 0, -1, 10 ** 60):
                    self.assertIs(shows_root(form, NoRoot(by)), signs.get(by) == -1)

    def test_great_roots(self):
        root = Form(5, -1, 29).changed(10 ** 30 + 1, 10 ** 30, 1, 1)
        self.assertEqual(reduced(root.numbers), (5, -1, 29))
        self.assert_true(shows_root(NINE, RootOf(root)))
        self.assert_false(shows_root(idle_form(12), RootOf(root)))

    def test_bent(self):
        for value in NO_FORMS + (None, NINE.numbers, Form(1, 0, 9), Form(1, 0, 16), idle_form(10 ** 40), idle_form(61),
                                 LeastForm(Form(5, -1, 29), (1, 0, 0, 1)), RootOf(Form(5, -1, 29)), Form(1, 0, 144)):
            self.assert_false(shows_root(NINE, RootOf(value)))
        self.assert_true(shows_root(NINE, RootOf(Form(5, -1, 29))))
        for value in ODD_VALUES + (1, 2, 5, 3.0, 8.0, "3", (3,), [3], Looser(), -3):
            self.assert_false(shows_root(Form(2, 1, 5), NoRoot(value)))
            self.assert_false(shows_root(Form(5, 1, 29), NoRoot(value)))
        self.assert_true(shows_root(Form(2, 1, 5), NoRoot(3)))
        self.assert_true(shows_root(Form(5, 1, 29), NoRoot(8)))
        # Its local sign by 3 is 1, as that of any square.
        self.assert_false(shows_root(Form(13, 5, 13), NoRoot(3)))
        self.assert_false(shows_root(NINE, NoRoot(8)))

    def test_of_another_class(self):
        for told, form in ((RootOf(Form(5, -1, 29)), NINE), (NoRoot(3), Form(2, 1, 5))):
            made = type(told)
            self.assert_true(shows_root(form, told))
            for value in (
                Paper(told.word, *told.parts), Denial(told.word, *told.parts), told.parts, told.parts[0], made,
                type("Below", (made,), {})(*told.parts), Looser(), look_alike(made.__name__, **dict(vars(told))),
            ) + ODD_VALUES:
                self.assert_false(shows_root(form, value))
        self.assert_false(shows_root(NINE, NoRoot(Form(5, -1, 29))))
        self.assert_false(shows_root(Form(2, 1, 5), RootOf(3)))

    def test_errors(self):
        for value in NO_FORMS:
            self.assert_error(BadForm("form"), shows_root, value, RootOf(NINE))
        for value in (RootOf(idle_form(61)), NoRoot(61), None):
            self.assert_error(TooMany("side", 60), shows_root, idle_form(61), value)

    def test_short_time(self):
        began = time.process_time()
        for turn in range(20):
            for numbers in TABLE[60][::5] + TABLE[59][::5]:
                shows_root(Form(*numbers), square_root_of(Form(*numbers)))
        self.assertLess(time.process_time() - began, 3)


if __name__ == "__main__":
    unittest.main()
