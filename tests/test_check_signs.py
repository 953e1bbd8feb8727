"""Checking the papers of symbols, circles between and signs."""

import itertools
import math
import time
import unittest

from bendsigns.check_signs import shows_between, shows_sign, shows_steps
from bendsigns.errors import BadFour, BadNumber, Flat, NoPlace, Twice
from bendsigns.fans import Between, between
from bendsigns.fours import Four
from bendsigns.papers import Denial, Paper
from bendsigns.rests import Met
from bendsigns.signs import Sign, sign
from bendsigns.symbols import Steps, steps_of
from bendsigns.touching import Way
from tests.helps import ODD_VALUES, Case, Looser, look_alike
from tests.walks import own_pair_sign, sign_near, walked, words_up_to

COINS, SIX, FLAT = Four((-3, 5, 8, 8)), Four((-6, 10, 15, 19)), Four((0, 0, 1, 1))
NO_FOURS = ODD_VALUES + ((-3, 5, 8, 8), [0, 0, 1, 1], 0)
NO_PLACES = ODD_VALUES + (-1, 4, 10 ** 60, [0], (1,))


def others(paper, made):
    """Values that look like a paper, but are none of its class."""
    named = dict(vars(paper))
    return (
        Paper(paper.word, *paper.parts), Denial(paper.word, *paper.parts), paper.parts, paper.parts[0], made,
        type("Below", (made,), {})(*paper.parts), Looser(), look_alike(made.__name__, **named), Met(paper.parts),
    ) + ODD_VALUES


class ShownSteps(Case):
    """shows_steps."""

    def test_right(self):
        for by in range(1, 90, 2):
            for number in range(-20, 90, 3):
                told = steps_of(number, by)
                self.assert_true(shows_steps(number, by, told))
                self.assert_true(shows_steps(number=number, by=by, value=Steps([list(row) for row in told.rows], told.value)))
                self.assert_false(shows_steps(number, by, Steps(told.rows, -told.value or 1)))
                self.assert_false(shows_steps(number, by + 2, told))
        self.assert_false(shows_steps(9, 5, steps_of(8, 5)))
        self.assert_true(shows_steps(13, 5, steps_of(8, 5)))

    def test_bent(self):
        rows = ((5, 3), (3, 2), (1, 0))
        for bent in ODD_VALUES + (
            (), rows[:2], rows[1:], rows + ((1, 0),), rows[::-1], rows[:1] + rows[2:], ((5, 3), (3, 2), (True, False)),
            ((5, 3), (3, 2), (1, False)), ((5, 3), (3, 2), (1, 0.0)), ((5, 3), (3, 2, 0), (1, 0)), ((5, 3), (3,), (1, 0)),
            ((5, 3), 3, (1, 0)), ((5, 3), (3, 2), (1, "0")), ((5, 8), (3, 2), (1, 0)), ((5, 3), (3, -1), (1, 0)), (rows,),
            ((5, 3), (3, 2), (1, None)), Looser(), (Looser(),) * 3, ((5, 3), (3, 2), (1, Looser())), rows[0],
            ((5, 3), (3, 2), Looser()),
        ):
            self.assert_false(shows_steps(8, 5, Steps(bent, -1)))
        for value in ODD_VALUES + (1, 0, -2, (-1,), Looser(), -1.0):
            self.assert_false(shows_steps(8, 5, Steps(rows, value)))
        self.assert_false(shows_steps(4, 1, Steps([(1, 0)], True)))
        self.assert_false(shows_steps(3, 3, Steps([(3, 0)], False)))
        self.assert_true(shows_steps(3, 3, Steps([(3, 0)], 0)))

    def test_of_another_class(self):
        for value in others(steps_of(8, 5), Steps):
            self.assert_false(shows_steps(8, 5, value))

    def test_errors(self):
        for value in ODD_VALUES + ([], [5]):
            self.assert_error(BadNumber("number"), shows_steps, value, None, steps_of(8, 5))
        for value in ODD_VALUES + (0, 2, -1, -3, [5]):
            self.assert_error(BadNumber("by"), shows_steps, 8, value, None)


class ShownBetween(Case):
    """shows_between."""

    def test_any_letters(self):
        for four, (place, other) in itertools.product((COINS, SIX, Four((-2, 3, 6, 7))), itertools.permutations(range(4), 2)):
            beside = [at for at in range(4) if at not in (place, other)]
            self.assert_true(shows_between(four, place, other, between(four, place, other)))
            for word in itertools.chain.from_iterable(itertools.product(range(4), repeat=many) for many in range(4)):
                bends = walked(four.bends, word)
                for at in range(4):
                    fits = at in beside and all(letter in beside for letter in word)
                    fits = fits and math.gcd(bends[at], bends[place] * bends[other]) == 1
                    self.assertIs(shows_between(four, place, other, Between(list(word), at)), fits)

    def test_long_words(self):
        began = time.process_time()
        there_and_back = (1, 2) * 2400 + (2, 1) * 2400
        self.assert_true(shows_between(four=SIX, place=3, other=0, value=Between(there_and_back + (1, 2), 2)))
        self.assert_false(shows_between(SIX, 3, 0, Between(there_and_back, 2)))
        self.assertLess(time.process_time() - began, 5)

    def test_bent(self):
        for letters in ODD_VALUES + (
            (0,), (3,), (4,), (1, 2, 0), (True, 2), (1.0, 2), ("1", 2), "12", 12, ((1, 2),), {1: 2}, Looser(),
            (Looser(), 2), (1, -2), (1, None), (1,), (),
        ):
            self.assert_false(shows_between(SIX, 3, 0, Between(letters, 2)))
        for at in ODD_VALUES + (0, 3, 4, -1, -2, (2,), 2.0, Looser(), 1):
            self.assert_false(shows_between(SIX, 3, 0, Between((1, 2), at)))
        self.assert_true(shows_between(SIX, 3, 0, Between((1, 2), 2)))
        # Truths stand for no places, also where they equal the right one.
        self.assert_true(shows_between(Four((10, 31, -6, 19)), 2, 3, Between((), 1)))
        self.assert_false(shows_between(Four((10, 31, -6, 19)), 2, 3, Between((), True)))

    def test_of_another_class(self):
        for value in others(Between((1, 2), 2), Between) + (Way((1, 2), 2),):
            self.assert_false(shows_between(SIX, 3, 0, value))

    def test_errors(self):
        told = Between((), 2)
        for value in NO_FOURS:
            self.assert_error(BadFour("four"), shows_between, value, None, None, told)
        for value in NO_PLACES:
            self.assert_error(NoPlace(value), shows_between, FLAT, value, 9, told)
            self.assert_error(NoPlace(value), shows_between, FLAT, 0, value, told)
        for place in range(4):
            self.assert_error(Twice(place), shows_between, FLAT, place, place, None)
        for place, other in ((0, 1), (1, 2), (3, 0)):
            self.assert_error(Flat(), shows_between, FLAT, place, other, told)
        self.assert_true(shows_between(FLAT, 2, 3, Between([], 0)))

    def test_one_of_both_itself(self):
        # The bend 1 is coprime to itself and to its neighbour, but it is no circle beside both.
        for at in range(4):
            self.assertIs(shows_between(FLAT, 2, 3, Between((), at)), at < 2)
            self.assertIs(shows_between(Four((1, 1, 4, 0)), 0, 1, Between((), at)), at > 1)


class ShownSigns(Case):
    """shows_sign."""

    def test_any_word_and_pair(self):
        for four in (COINS, SIX, FLAT, Four((-1, 2, 2, 3)), Four((28, 25, 25, -12))):
            value = sign_near(four.bends)
            for word in words_up_to(2):
                bends = walked(four.bends, word)
                for place, at in itertools.product(range(4), repeat=2):
                    fits = place != at and math.gcd(bends[place], bends[at]) == 1
                    self.assertIs(shows_sign(four, Sign(value, list(word), place, at)), fits)
                    self.assert_false(shows_sign(four, Sign(-value, list(word), place, at)))
                    if fits:
                        self.assertEqual(own_pair_sign(bends[place], bends[at]), value)

    def test_long_words(self):
        began = time.process_time()
        word = [at % 4 for at in range(9000)]
        bends = walked(COINS.bends, word)
        place, at = [pair for pair in itertools.permutations(range(4), 2)
                     if math.gcd(bends[pair[0]], bends[pair[1]]) == 1][0]
        self.assert_true(shows_sign(four=COINS, value=Sign(-1, word, place, at)))
        self.assert_false(shows_sign(COINS, Sign(1, word, place, at)))
        self.assertLess(time.process_time() - began, 10)

    def test_far_fours(self):
        four = Four(walked(COINS.bends, [at % 4 for at in range(300)]))
        told = sign(four)
        self.assert_true(shows_sign(four, told))
        self.assert_false(shows_sign(four, Sign(-told.value, told.letters, told.place, told.at)))

    def test_bent(self):
        for value in ODD_VALUES + (1, 0, -2, (-1,), -1.0, Looser()):
            self.assert_false(shows_sign(COINS, Sign(value, (), 0, 2)))
        for value in (True, 1.0, "1", -1, 0, Looser()):
            self.assert_false(shows_sign(SIX, Sign(value, (), 0, 3)))
        for letters in ODD_VALUES + ((4,), (-1,), (True, True), (1.0, 1.0), ("1",), 5, ((1, 1),), Looser(), (Looser(),),
                                     (1, None), {1: 1}):
            self.assert_false(shows_sign(COINS, Sign(-1, letters, 0, 2)))
        self.assert_true(shows_sign(COINS, Sign(-1, (1, 1), 0, 2)))
        for place in ODD_VALUES + (2, 4, -4, (0,), Looser(), 0.0):
            self.assert_false(shows_sign(COINS, Sign(-1, (), place, 2)))
            self.assert_false(shows_sign(COINS, Sign(-1, (), 2, place)))
        # The bends 0 at unlike places, and one place with the bend 1 taken twice.
        self.assert_false(shows_sign(FLAT, Sign(1, (), 0, 1)))
        self.assert_false(shows_sign(FLAT, Sign(1, (), 2, 2)))
        self.assert_true(shows_sign(FLAT, Sign(1, (), 2, 3)))
        self.assert_false(shows_sign(FLAT, Sign(1, (), 2, True)))
        self.assert_true(shows_sign(FLAT, Sign(1, (), 2, 1)))

    def test_of_another_class(self):
        for value in others(sign(COINS), Sign):
            self.assert_false(shows_sign(COINS, value))

    def test_errors(self):
        for value in NO_FOURS:
            self.assert_error(BadFour("four"), shows_sign, value, sign(COINS))


if __name__ == "__main__":
    unittest.main()
