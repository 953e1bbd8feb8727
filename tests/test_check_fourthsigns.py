"""Checking the papers of fourth signs."""

import itertools
import math
import time
import unittest

from bendsigns.check_fourthsigns import shows_fourth_sign
from bendsigns.errors import BadFour, Misfit
from bendsigns.fours import Four
from bendsigns.fourthsigns import FourthSign, fourth_sign
from bendsigns.papers import Denial, Paper
from bendsigns.signs import Sign
from tests.fourths import fours_with_fourth_signs, own_fourth_sign
from tests.helps import ODD_VALUES, Case, Looser, look_alike
from tests.walks import walked

ODD, FLAT, SEVEN = Four((-12, 25, 25, 28)), Four((0, 0, 1, 1)), Four((-7, 8, 56, 57))
FOURS = fours_with_fourth_signs(40)


class Shown(Case):
    """shows_fourth_sign."""

    def test_all_words_and_pairs(self):
        words = [()] + [word for many in (1, 2, 3) for word in itertools.product(range(4), repeat=many)]
        for four, value in FOURS[::9] + ((FLAT, 1),):
            for word in words:
                bends = walked(four.bends, word)
                for place, at in itertools.product(range(4), repeat=2):
                    fits = place != at and bends[place] % 2 == 1 and math.gcd(bends[place], bends[at]) == 1
                    self.assertIs(shows_fourth_sign(four, FourthSign(value, list(word), place, at)), fits)
                    self.assert_false(shows_fourth_sign(four, FourthSign(-value, list(word), place, at)))

    def test_what_the_pairs_tell(self):
        for four, value in FOURS:
            for place, at in itertools.permutations(range(4), 2):
                if shows_fourth_sign(four=four, value=FourthSign(value, (), place, at)):
                    self.assertEqual(own_fourth_sign(four.bends, place, at), value)

    def test_what_is_told(self):
        for four, value in FOURS:
            for order in ((0, 1, 2, 3), (3, 1, 0, 2), (2, 3, 1, 0)):
                told = fourth_sign(four.in_order(order))
                self.assert_true(shows_fourth_sign(four.in_order(order), told))
                self.assert_false(shows_fourth_sign(four.in_order(order), FourthSign(-told.value, *told.parts[1:])))

    def test_long_words(self):
        began = time.process_time()
        there_and_back = (1, 2) * 2400 + (2, 1) * 2400
        self.assert_true(shows_fourth_sign(ODD, FourthSign(-1, there_and_back + (3, 3, 3), 2, 3)))
        self.assert_false(shows_fourth_sign(ODD, FourthSign(1, there_and_back + (3, 3, 3), 2, 3)))
        self.assert_false(shows_fourth_sign(ODD, FourthSign(-1, there_and_back, 1, 2)))
        word = [at % 4 for at in range(9000)]
        bends = walked(ODD.bends, word)
        for place, at in itertools.permutations(range(4), 2):
            fits = bends[place] % 2 == 1 and math.gcd(bends[place], bends[at]) == 1
            self.assertIs(shows_fourth_sign(ODD, FourthSign(-1, word, place, at)), fits)
        self.assertLess(time.process_time() - began, 20)

    def test_far_fours(self):
        for many in (200, 201, 300):
            four = Four(walked(SEVEN.bends, [at % 4 for at in range(many)]))
            told = fourth_sign(four)
            self.assert_true(shows_fourth_sign(four, told))
            back = [at % 4 for at in range(many)][::-1]
            self.assert_true(shows_fourth_sign(four, FourthSign(1, back, 0, 3)))
            self.assert_false(shows_fourth_sign(four, FourthSign(1, back, 0, 2)))
            self.assert_false(shows_fourth_sign(four, FourthSign(-1, back, 0, 3)))

    def test_bent(self):
        for value in ODD_VALUES + (1, 0, 2, -2, (-1,), [-1], -1.0, Looser()):
            self.assert_false(shows_fourth_sign(ODD, FourthSign(value, (), 1, 3)))
        for value in (True, 1.0, "1", -1, 0, (1,), Looser()):
            self.assert_false(shows_fourth_sign(SEVEN, FourthSign(value, (), 0, 3)))
        self.assert_true(shows_fourth_sign(SEVEN, FourthSign(1, (), 0, 3)))
        for letters in ODD_VALUES + ((4,), (-1,), (3, True, True, 3), (3.0, 3.0), ("3",), 5, ((3, 3),), Looser(), (Looser(),),
                                     (3, None), {3: 3}):
            self.assert_false(shows_fourth_sign(ODD, FourthSign(-1, letters, 1, 3)))
        self.assert_true(shows_fourth_sign(ODD, FourthSign(-1, [3, 3], 1, 3)))
        for place in ODD_VALUES + (3, 4, -3, (1,), Looser(), 1.0):
            self.assert_false(shows_fourth_sign(ODD, FourthSign(-1, (), place, 3)))
        for at in ODD_VALUES + (1, 2, 4, -1, (3,), Looser(), 3.0):
            self.assert_false(shows_fourth_sign(ODD, FourthSign(-1, (), 1, at)))

    def test_truths_for_places(self):
        self.assert_true(shows_fourth_sign(FLAT, FourthSign(1, (), 2, 1)))
        self.assert_false(shows_fourth_sign(FLAT, FourthSign(1, (), 2, True)))
        self.assert_true(shows_fourth_sign(FLAT, FourthSign(1, (), 3, 0)))
        self.assert_false(shows_fourth_sign(FLAT, FourthSign(1, (), 3, False)))

    def test_the_same_place_twice(self):
        # The bend 1 is odd and coprime to itself.
        self.assert_false(shows_fourth_sign(FLAT, FourthSign(1, (), 2, 2)))
        self.assert_false(shows_fourth_sign(FLAT, FourthSign(1, (), 3, 3)))
        # An even circle does not stand first, though it is coprime to the odd one.
        self.assert_false(shows_fourth_sign(FLAT, FourthSign(1, (), 1, 2)))

    def test_of_another_class(self):
        told = fourth_sign(ODD)
        for value in (
            Paper(told.word, *told.parts), Denial(told.word, *told.parts), told.parts, told.value, FourthSign,
            type("Below", (FourthSign,), {})(*told.parts), Looser(), Sign(*told.parts),
            look_alike("FourthSign", **dict(vars(told))),
        ) + ODD_VALUES:
            self.assert_false(shows_fourth_sign(ODD, value))

    def test_errors(self):
        for value in ODD_VALUES + ((-12, 25, 25, 28), [0, 0, 1, 1], 0):
            self.assert_error(BadFour("four"), shows_fourth_sign, value, fourth_sign(ODD))
        for value in (fourth_sign(ODD), None, 1):
            self.assert_error(Misfit("kind"), shows_fourth_sign, Four((-3, 5, 8, 8)), value)
            self.assert_error(Misfit("sign"), shows_fourth_sign, Four((-15, 24, 41, 44)), value)


if __name__ == "__main__":
    unittest.main()
