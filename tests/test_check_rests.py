"""Checking the papers of rows."""

import itertools
import time
import unittest

from bendsigns.check_rests import shows_met
from bendsigns.errors import BadFour, BadNumber
from bendsigns.fours import Four
from bendsigns.papers import Denial, Paper
from bendsigns.rests import Met, Unmet, fours_by, met
from tests.helps import ODD_VALUES, Case, Looser, look_alike
from tests.walks import walked, words_up_to

COINS = Four((-3, 5, 8, 8))
MODULI = (2, 3, 4, 5, 6, 7, 8, 9, 10, 11, 12, 13, 24)


class Right(Case):
    """What met tells, any other word, any other pillar."""

    def test_what_is_told(self):
        for modulus in MODULI:
            for number in range(0, modulus ** 4, modulus ** 4 // 12):
                row = tuple(number // modulus ** index % modulus for index in range(4))
                told = met(COINS, modulus, row)
                self.assert_true(shows_met(COINS, modulus, row, told))
                self.assert_true(shows_met(four=COINS, modulus=modulus, row=list(row), value=told))
                self.assert_false(shows_met(COINS, modulus, row, Met(()) if not told else Unmet(modulus)))
            for row in fours_by(COINS, modulus)[::151]:
                self.assert_true(shows_met(COINS, modulus, row, met(COINS, modulus, row)))

    def test_any_word(self):
        for modulus in (3, 8, 13, 24):
            for row in fours_by(COINS, modulus)[:40:7]:
                for word in words_up_to(4):
                    right = tuple(bend % modulus for bend in walked(COINS.bends, word)) == row
                    self.assertIs(shows_met(COINS, modulus, row, Met(list(word))), right)
        self.assert_true(shows_met(COINS, 24, (21, 5, 8, 8), Met([2, 2, 3, 3])))

    def test_long_words(self):
        began = time.process_time()
        word = [at % 4 for at in range(9000)]
        row = tuple(bend % 13 for bend in walked(COINS.bends, word))
        near = tuple(bend % 13 for bend in walked(COINS.bends, word[1:]))
        self.assertNotEqual(near, row)
        self.assert_true(shows_met(COINS, 13, row, Met(word)))
        self.assert_false(shows_met(COINS, 13, near, Met(word)))
        self.assertLess(time.process_time() - began, 2)

    def test_any_pillar(self):
        row = (0, 0, 0, 0)
        for by in range(-3, 30):
            self.assertIs(shows_met(COINS, 24, row, Unmet(by)), by in (3, 8))
            self.assertIs(shows_met(COINS, 12, row, Unmet(by)), by in (3, 4))
            self.assertIs(shows_met(COINS, 10, row, Unmet(by)), by in (2, 5))
            self.assertIs(shows_met(COINS, 9, row, Unmet(by)), by == 9)
        for row, right in (((21, 5, 8, 9), (8,)), ((1, 5, 8, 0), (3, 8)), ((13, 5, 8, 8), (3,)), ((21, 5, 8, 8), ())):
            for by in (2, 3, 4, 8, 24):
                self.assertIs(shows_met(COINS, 24, row, Unmet(by)), by in right)


class Wrong(Case):
    """Bent papers, papers of another class, no papers."""

    def test_bent(self):
        row = (21, 5, 8, 12)
        for letters in ODD_VALUES + (
            (), (2,), (3, 3), (4,), (3, 4, 4), (True, True, 3), (3.0,), ("3",), "3", 3, ((3,),), {3: 3}, Looser(),
            (Looser(),), (-1, 3), (3, None),
        ):
            self.assert_false(shows_met(COINS, 24, row, Met(letters)))
        self.assert_true(shows_met(COINS, 24, row, Met((3,))))
        for by in ODD_VALUES + (8, 3, 24, 2, (8,), Looser()):
            self.assert_false(shows_met(COINS, 24, row, Unmet(by)))
        for by in ODD_VALUES + (3, 24, 2, 4, -8, (8,), "8", 8.0, Looser()):
            self.assert_false(shows_met(COINS, 24, (21, 5, 8, 9), Unmet(by)))
        self.assert_true(shows_met(COINS, 24, (21, 5, 8, 9), Unmet(8)))

    def test_of_another_class(self):
        for value in ODD_VALUES + (
            Paper("met", (3,)), Denial("met", (3,)), (3,), [3], Unmet((3,)), type("Below", (Met,), {})((3,)), Met,
            Looser(), look_alike("Met", letters=(3,), word="met", parts=((3,),)),
        ):
            self.assert_false(shows_met(COINS, 24, (21, 5, 8, 12), value))
        for value in ODD_VALUES + (
            Paper("unmet", 8), Denial("unmet", 8), 8, Met(8), type("Below", (Unmet,), {})(8), Unmet, Looser(),
            look_alike("Unmet", by=8, word="unmet", parts=(8,)),
        ):
            self.assert_false(shows_met(COINS, 24, (21, 5, 8, 9), value))

    def test_errors(self):
        for value in ODD_VALUES + ((-3, 5, 8, 8), [0, 0, 1, 1], 0):
            self.assert_error(BadFour("four"), shows_met, value, None, None, Met(()))
        for value in ODD_VALUES + (3.0, 24.0, 1, 0, 14, 23, 25, -2, [2], 10 ** 60):
            self.assert_error(BadNumber("modulus"), shows_met, COINS, value, None, Met(()))
        for value, modulus in itertools.product(ODD_VALUES + ((0, 0, 0), (0, 0, 0, 24), (0, 0, 0, -1), (0, 0, 0, True)),
                                                (5, 24)):
            self.assert_error(BadNumber("row"), shows_met, COINS, modulus, value, Met(()))


if __name__ == "__main__":
    unittest.main()
