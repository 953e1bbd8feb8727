"""Checking the papers of what touches a circle."""

import unittest

from bendsigns.around import form_at
from bendsigns.check_touching import shows_touches
from bendsigns.errors import BadFour, BadNumber, Flat, NoPlace
from bendsigns.forms import Form
from bendsigns.fours import Four
from bendsigns.leastforms import UnlikeForms
from bendsigns.papers import Denial, Paper
from bendsigns.touching import Touching, Untouched, Way, touches
from tests.helps import ODD_VALUES, Case, Looser, look_alike
from tests.walks import told_pairs, walked

THREE = Four((-3, 5, 8, 8))


class Right(Case):
    """What touches tells, and any other told pair."""

    def test_what_is_told(self):
        for bends in ((-3, 5, 8, 8), (0, 0, 1, 1), (-6, 10, 15, 19), (45, 5, 8, 8)):
            for place in range(4):
                if bends[place] != 0:
                    for number in range(1 - bends[place], 60):
                        self.check(Four(bends), place, number)

    def check(self, four, place, number):
        """The told paper is right; the one of another number is not."""
        told = touches(four, place, number)
        self.assert_true(shows_touches(four, place, number, told))
        self.assert_true(shows_touches(four=four, place=place, number=number, value=told))
        if told:
            self.assert_false(shows_touches(four, place, number + 1, told))
            self.assert_false(shows_touches(four, place, number, Untouched(())))

    def test_any_told_pair(self):
        form = form_at(THREE, 0)
        for number in range(4, 40):
            for x in range(-6, 7):
                for y in range(-6, 7):
                    right = (x, y) in told_pairs(6) and form.worth(x, y) == number - 3
                    self.assertIs(shows_touches(THREE, 0, number, Touching(x, y)), right)

    def test_lists_for_tuples(self):
        self.assert_true(shows_touches(THREE, 0, 4, Untouched([Form(1, 0, 9)])))
        self.assert_true(shows_touches(THREE, 0, 9, Untouched([])))

    def test_far_fours(self):
        bends = walked((0, 0, 1, 1), [turn % 4 for turn in range(300)])
        for number in (1 - bends[2], 2000 - bends[2]):
            self.assert_true(shows_touches(Four(bends), 2, number, touches(Four(bends), 2, number)))


class Wrong(Case):
    """Bent papers, papers of another class, no papers."""

    def test_bent_touching(self):
        for x, y in ((-1, -1), (1, 2), (True, True), (1, True), (1.0, 1), (None, 1), (1, None), ("1", 1), ((1, 1), ()),
                     (Looser(), 1), (1, Looser()), (2, 2), (0, 0), (-2, 1)):
            self.assert_false(shows_touches(THREE, 0, 12, Touching(x, y)))
        self.assert_true(shows_touches(THREE, 0, 12, Touching(1, 1)))
        self.assert_false(shows_touches(THREE, 0, 13, Touching(1, 1)))

    def test_no_coprime_pair(self):
        # The form has the worths 36 at (2, 2) and 18 at (-1, 2), but these are no told pairs.
        self.assertEqual(form_at(THREE, 0).worth(2, 2), 36)
        self.assert_false(shows_touches(THREE, 0, 39, Touching(2, 2)))
        self.assertEqual(form_at(THREE, 0).worth(-1, 2), 18)
        self.assert_false(shows_touches(THREE, 0, 21, Touching(-1, 2)))
        self.assert_true(shows_touches(THREE, 0, 21, Touching(1, -2)))

    def test_bent_untouched(self):
        four, number = Four((-12, 25, 25, 28)), 44
        forms = touches(four, 0, number).forms
        self.assertTrue(len(forms) > 1 and forms[0] != forms[1])
        self.assert_true(shows_touches(four, 0, number, Untouched(list(forms))))
        for bent in (
            forms[1:], forms[:-1], forms + forms[-1:], forms[:1] + forms, (forms[1], forms[0]) + forms[2:], (),
            forms[:-1] + (Form(1, 0, 1),), tuple(form.numbers for form in forms), forms[0], None, True,
            forms[:-1] + (Looser(),), (Looser(),) * len(forms), Looser(), dict(enumerate(forms)),
            forms[:-1] + (forms[-1].changed(1, 1, 0, 1),), (forms,), str(forms),
        ):
            self.assert_false(shows_touches(four, 0, number, Untouched(bent)))

    def test_untouched_of_what_touches(self):
        self.assert_false(shows_touches(THREE, 0, 12, Untouched([Form(2, 1, 5), Form(2, 1, 5)])))
        self.assert_false(shows_touches(THREE, 0, 8, Untouched([Form(2, 1, 5), Form(2, 1, 5)])))
        self.assert_false(shows_touches(THREE, 0, 4, Touching(1, 0)))

    def test_of_another_class(self):
        for value in ODD_VALUES + (
            Paper("touching", 1, 1), Denial("touching", 1, 1), Way(1, 1), (1, 1), type("Below", (Touching,), {})(1, 1),
            Looser(), Touching, look_alike("Touching", x=1, y=1),
        ):
            self.assert_false(shows_touches(THREE, 0, 12, value))
        forms = (Form(1, 0, 9),)
        for value in ODD_VALUES + (
            Paper("untouched", forms), Denial("untouched", forms), UnlikeForms(forms, forms), forms, forms[0],
            type("Below", (Untouched,), {})(forms), Looser(), look_alike("Untouched", forms=forms),
        ):
            self.assert_false(shows_touches(THREE, 0, 4, value))

    def test_errors(self):
        flat, paper = Four((0, 0, 1, 1)), Touching(1, 1)
        for value in ODD_VALUES + ((-3, 5, 8, 8), [0]):
            self.assert_error(BadFour("four"), shows_touches, value, 9, None, paper)
        for value in ODD_VALUES + (-1, 4, [0]):
            self.assert_error(NoPlace(value), shows_touches, flat, value, None, None)
        for value in ODD_VALUES + ([5], 3, 2, 2004, -10 ** 60):
            self.assert_error(BadNumber("number"), shows_touches, THREE, 0, value, paper)
        self.assert_error(BadNumber("number"), shows_touches, flat, 0, 0, paper)
        self.assert_error(Flat(), shows_touches, flat, 0, 1, paper)


if __name__ == "__main__":
    unittest.main()
