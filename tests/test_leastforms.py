"""Least forms, forms that are alike, and the check of their papers."""

import itertools
import random
import unittest

from bendsigns.errors import BadForm
from bendsigns.forms import Form
from bendsigns.leastforms import (
    AlikeForms, LeastForm, UnlikeForms, alike_forms, least_form, shows_alike_forms, shows_least_form,
)
from bendsigns.papers import Denial, Paper
from tests.helps import ODD_VALUES, Case, Looser, look_alike
from tests.walks import is_least_form, least_numbers

SIDES = {side: least_numbers(side) for side in range(1, 25)}
EDGES = ((13, 5, 13), (4, 0, 9), (4, 2, 37), (2, 1, 5), (1, 0, 1), (5, -2, 8), (9, 0, 16), (1, 0, 3600))


def table_of(seed, length, most):
    """A table of determinant 1, the product of so many plain ones with numbers up to most."""
    source = random.Random(seed)
    p, q, r, s = 1, 0, 0, 1
    for turn in range(length):
        times = source.randint(-most, most)
        p, q = p, q + times * p
        r, s = r, s + times * r
        p, q, r, s = q, -p, s, -r
    return p, q, r, s


def determinant(table):
    """p s - q r."""
    return table[0] * table[3] - table[1] * table[2]


class LeastForms(Case):
    """One least form for all that are alike."""

    def check(self, form, wanted):
        """The least form of a form, and that the change leads there."""
        told = least_form(form)
        self.assertIsInstance(told, LeastForm)
        self.assertEqual(told.form.numbers, wanted)
        self.assertEqual(determinant(told.change), 1)
        self.assertEqual(form.changed(*told.change), told.form)
        self.assertIs(type(told.change), tuple)
        self.assertEqual(least_form(Form(*form.numbers)), told)
        self.assert_true(shows_least_form(form, told))

    def test_sides_and_small_tables(self):
        for side, rows in SIDES.items():
            for seed, numbers in enumerate(rows):
                form = Form(*numbers)
                self.check(form, numbers)
                for length in range(1, 6):
                    self.check(form.changed(*table_of(seed * 10 + length, length, 3)), numbers)

    def test_great_tables(self):
        for seed, numbers in enumerate(EDGES + tuple(SIDES[24])):
            for length, most in ((2, 10 ** 29), (10, 10 ** 5), (40, 9)):
                self.check(Form(*numbers).changed(*table_of(seed, length, most)), numbers)

    def test_long_numbers(self):
        form = Form(2, 1, 5).changed(*table_of(5, 900, 1))
        self.check(form, (2, 1, 5))
        self.check(Form(5, -2, 8).changed(*table_of(5, 4, 10 ** 120)), (5, -2, 8))

    def test_mirrored(self):
        for rows in SIDES.values():
            for first, half, last in rows:
                own = half == 0 or first in (2 * half, last)
                wanted = (first, half, last) if own else (first, -half, last)
                self.check(Form(first, half, last).mirrored(), wanted)

    def test_edges(self):
        for numbers, wanted in (
            ((13, -5, 13), (13, 5, 13)), ((2, -1, 5), (2, 1, 5)), ((5, 2, 1), (1, 0, 1)), ((5, 3, 2), (1, 0, 1)),
            ((37, 2, 4), (4, 2, 37)), ((37, -2, 4), (4, 2, 37)), ((9, 0, 4), (4, 0, 9)), ((8, 2, 5), (5, -2, 8)),
        ):
            self.check(Form(*numbers), wanted)

    def test_errors(self):
        for value in ODD_VALUES + ((2, 1, 5), [2, 1, 5]):
            self.assert_error(BadForm("form"), least_form, value)
            self.assert_error(BadForm("form"), shows_least_form, value, None)


class AlikeOnes(Case):
    """Forms that are alike, and those that are not."""

    def test_all_pairs_of_a_side(self):
        for side in (1, 2, 6, 12, 24):
            for one, other in itertools.product(SIDES[side], repeat=2):
                here = Form(*one).changed(*table_of(1, 5, 4))
                there = Form(*other).changed(*table_of(2, 4, 5))
                told = alike_forms(one=here, other=there)
                self.assertIs(bool(told), one == other)
                if one == other:
                    self.assertIsInstance(told, AlikeForms)
                    self.assertEqual(determinant(told.change), 1)
                    self.assertEqual(here.changed(*told.change), there)
                else:
                    self.assertIsInstance(told, UnlikeForms)
                    self.assertEqual((told.form.numbers, told.other_form.numbers), (one, other))
                self.assert_true(shows_alike_forms(here, there, told))
                self.assertEqual(alike_forms(here, there), told)

    def test_unlike_sides(self):
        told = alike_forms(Form(5, 1, 2), Form(1, 0, 4))
        self.assertEqual(told.parts, (Form(2, 1, 5), Form(1, 0, 4)))
        self.assert_true(shows_alike_forms(Form(5, 1, 2), Form(1, 0, 4), told))

    def test_errors(self):
        form = Form(2, 1, 5)
        for value in ODD_VALUES + ((2, 1, 5), [2, 1, 5]):
            self.assert_error(BadForm("one"), alike_forms, value, value)
            self.assert_error(BadForm("other"), alike_forms, form, value)
            self.assert_error(BadForm("one"), shows_alike_forms, value, value, None)
            self.assert_error(BadForm("other"), shows_alike_forms, form, value, None)


class CheckingLeastForms(Case):
    """shows_least_form of right and bent papers."""

    def test_any_such_change(self):
        form = Form(17, 5, 2)
        for change in itertools.product(range(-4, 5), repeat=4):
            right = determinant(change) == 1 and form.changed(*change).numbers == (2, 1, 5)
            self.assertIs(shows_least_form(form, LeastForm(Form(2, 1, 5), list(change))), right)

    def test_only_least_forms(self):
        form = Form(17, 5, 2)
        for change in ((1, 0, 0, 1), (0, 1, -1, 0), (1, 1, 0, 1), (0, 1, 1, 0), (1, 0, 0, -1)):
            there = form.changed(*change)
            self.assert_false(is_least_form(there.numbers))
            self.assert_false(shows_least_form(form, LeastForm(there, change)))

    def test_the_quarter_turn(self):
        form = Form(1, 0, 1)
        for change, right in (((0, 1, -1, 0), True), ((0, -1, 1, 0), True), ((0, 1, 1, 0), False), ((-1, 0, 0, -1), True)):
            self.assertIs(shows_least_form(form, LeastForm(form, change)), right)

    def test_bent(self):
        form, there, change = Form(17, 5, 2), Form(2, 1, 5), (0, -1, 1, 3)
        self.assert_true(shows_least_form(form=form, value=LeastForm(there, change)))
        for value in (
            LeastForm(Form(2, -1, 5), change), LeastForm(form, (1, 0, 0, 1)), LeastForm((2, 1, 5), change),
            LeastForm(there, (0, -1, 1)), LeastForm(there, (0, -1, 1, 3, 0)), LeastForm(there, (0, 1, 1, -3)),
            LeastForm(there, (False, -1, True, 3)), LeastForm(there, (0, -1, 1, 3.0)), LeastForm(there, None),
            LeastForm(None, change), LeastForm(there, "0113"), LeastForm(Looser(), change), LeastForm(there, Looser()),
            LeastForm(there, ((0, -1), (1, 3))), LeastForm(there, {0: 0, -1: 1, 1: 2, 3: 3}), LeastForm(change, there),
        ):
            self.assert_false(shows_least_form(form, value))

    def test_of_another_class(self):
        form, there, change = Form(17, 5, 2), Form(2, 1, 5), (0, -1, 1, 3)
        below = type("Below", (LeastForm,), {})
        for value in ODD_VALUES + (Paper("leastform", there, change), Denial("leastform", there, change),
                                   UnlikeForms(there, change), AlikeForms(change), (there, change), there,
                                   below(there, change), Looser(), LeastForm,
                                   look_alike("LeastForm", form=there, change=change)):
            self.assert_false(shows_least_form(form, value))


class CheckingAlikeForms(Case):
    """shows_alike_forms of right and bent papers."""

    def test_any_such_change(self):
        one, other = Form(17, 5, 2), Form(5, -1, 2)
        for change in itertools.product(range(-4, 5), repeat=4):
            right = determinant(change) == 1 and one.changed(*change) == other
            self.assertIs(shows_alike_forms(one, other, AlikeForms(change)), right)

    def test_bent(self):
        one, other = Form(5, 1, 29), Form(29, 1, 5)
        least, other_least = Form(5, 1, 29), Form(5, -1, 29)
        self.assert_true(shows_alike_forms(one=one, other=other, value=UnlikeForms(least, other_least)))
        for value in (
            UnlikeForms(other_least, least), UnlikeForms(least, least), UnlikeForms(one, other),
            UnlikeForms((5, 1, 29), (5, -1, 29)), UnlikeForms(None, other_least), UnlikeForms(least, None),
            UnlikeForms(Looser(), Looser()), AlikeForms((0, 1, 1, 0)), AlikeForms((1, 0, 0, 1)), AlikeForms(None),
            AlikeForms(()), AlikeForms((True, 0, 0, 1)), Paper("unlikeforms", least, other_least),
            Denial("unlikeforms", least, other_least), LeastForm(least, other_least), (least, other_least),
            UnlikeForms(least, Form(1, 0, 144)), UnlikeForms(Form(1, 0, 144), other_least),
            type("Below", (UnlikeForms,), {})(least, other_least),
            look_alike("UnlikeForms", form=least, other_form=other_least),
        ) + ODD_VALUES:
            self.assert_false(shows_alike_forms(one, other, value))

    def test_unlike_of_alike_ones(self):
        form = Form(2, 1, 5)
        self.assert_false(shows_alike_forms(form, Form(17, 5, 2), UnlikeForms(form, form)))
        self.assert_false(shows_alike_forms(form, form, UnlikeForms(form, Form(1, 0, 9))))
        self.assert_false(shows_alike_forms(form, form, AlikeForms((True, 0, 0, True))))
        self.assert_true(shows_alike_forms(form, form, AlikeForms([1, 0, 0, 1])))
        for value in (type("Below", (AlikeForms,), {})((1, 0, 0, 1)), look_alike("AlikeForms", change=(1, 0, 0, 1)),
                      Paper("alikeforms", (1, 0, 0, 1)), LeastForm(form, (1, 0, 0, 1)), (1, 0, 0, 1)):
            self.assert_false(shows_alike_forms(form, form, value))


if __name__ == "__main__":
    unittest.main()
