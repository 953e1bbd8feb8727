"""Rows by a modulus: which come, how many, and by which word."""

import itertools
import time
import unittest

from bendsigns.errors import BadFour, BadNumber
from bendsigns.fours import Four
from bendsigns.kinds import kind_of
from bendsigns.rests import Met, Unmet, fours_by, many_fours, met, rests
from tests.helps import ODD_VALUES, Case
from tests.walks import exchanged, walked, words_up_to

COINS = Four((-3, 5, 8, 8))
MODULI = (2, 3, 4, 5, 6, 7, 8, 9, 10, 11, 12, 13, 24)
NO_MODULI = (3.0, 24.0, 1, 0, -1, -2, 14, 15, 16, 18, 22, 23, 25, 26, 10 ** 60, [2], [])
PILLARS = {2: [2], 3: [3], 4: [4], 5: [5], 6: [2, 3], 7: [7], 8: [8], 9: [9], 10: [2, 5], 11: [11], 12: [3, 4],
           13: [13], 24: [3, 8]}
STARTS = ((-3, 5, 8, 8), (0, 0, 1, 1), (1, 0, 1, 0), (-1, 2, 2, 3), (-2, 3, 6, 7), (-6, 10, 15, 19), (28, 25, 25, -12))
_KEPT = {}


def own_rows(bends, modulus):
    """All rows that come, each with the first word, by an own walk over words by length and then as tuples."""
    start = tuple(bend % modulus for bend in bends)
    if (start, modulus) not in _KEPT:
        words = {start: ()}
        for row in (rows := [start]):
            for place in range(4):
                then = tuple(bend % modulus for bend in exchanged(row, place))
                if then not in words:
                    words[then] = words[row] + (place,)
                    rows.append(then)
        _KEPT[start, modulus] = words
    return _KEPT[start, modulus]


class Rows(Case):
    """fours_by, rests and many_fours."""

    def test_against_a_walk(self):
        for start in STARTS:
            for modulus in MODULI:
                told = fours_by(Four(start), modulus)
                self.assertEqual(told, tuple(sorted(own_rows(start, modulus))))
                self.assertTrue(type(told) is tuple and all(type(row) is tuple for row in told))
                self.assertEqual(many_fours(modulus), len(told))
                wanted = tuple(sorted({each for row in told for each in row}))
                self.assertEqual(rests(Four(start), modulus), wanted)
        self.assertEqual(fours_by(four=COINS, modulus=2), ((1, 1, 0, 0),))
        self.assertEqual(rests(four=COINS, modulus=2), (0, 1))
        self.assertEqual(many_fours(modulus=24), 40)

    def test_no_row_is_left_out(self):
        # Words up to ten letters lead to all rows by small moduli, whatever the walk above is.
        for start in ((-3, 5, 8, 8), (-2, 3, 6, 7)):
            for modulus in (2, 3, 4, 6, 8, 12, 24):
                come = {tuple(bend % modulus for bend in walked(start, word)) for word in words_up_to(6)}
                self.assertEqual(fours_by(Four(start), modulus), tuple(sorted(come)))

    def test_every_solution_by_a_prime(self):
        for prime in (5, 7, 11):
            solved = [row for row in itertools.product(range(prime), repeat=4)
                      if any(row) and (2 * sum(each * each for each in row) - sum(row) ** 2) % prime == 0]
            self.assertEqual(fours_by(COINS, prime), tuple(solved))

    def test_rests_by_24_are_those_of_the_kind(self):
        for start in STARTS:
            self.assertEqual(rests(Four(start), 24), kind_of(Four(start)).rests)

    def test_how_many(self):
        for modulus, wanted in zip(MODULI, (1, 10, 1, 144, 10, 300, 4, 270, 144, 1220, 10, 2352, 40)):
            self.assertEqual(many_fours(modulus), wanted)

    def test_far_and_great(self):
        far = Four(walked((-3, 5, 8, 8), [at % 4 for at in range(400)]))
        for modulus in MODULI:
            self.assertEqual(fours_by(far, modulus), fours_by(COINS, modulus))

    def test_errors(self):
        for call in (fours_by, rests):
            for value in ODD_VALUES + ((-3, 5, 8, 8), [0, 0, 1, 1], 0):
                self.assert_error(BadFour("four"), call, value, None)
            for value in ODD_VALUES + NO_MODULI:
                self.assert_error(BadNumber("modulus"), call, COINS, value)
        for value in ODD_VALUES + NO_MODULI:
            self.assert_error(BadNumber("modulus"), many_fours, value)

    def test_short_time(self):
        began = time.process_time()
        fours_by(COINS, 13)
        fours_by(COINS, 24)
        met(COINS, 13, fours_by(COINS, 13)[-1])
        met(COINS, 24, (1, 1, 1, 1))
        self.assertLess(time.process_time() - began, 2)


class Words(Case):
    """met: the first word to a row, or the first pillar that bars it."""

    def test_first_words(self):
        for start in STARTS:
            for modulus in (2, 3, 4, 6, 8, 12, 24):
                for row, word in own_rows(start, modulus).items():
                    told = met(Four(start), modulus, list(row))
                    self.assertIsInstance(told, Met)
                    self.assertEqual(told.letters, word)
        for modulus, step in ((5, 2), (7, 11), (9, 7), (10, 5), (11, 53), (13, 97)):
            for row, word in itertools.islice(own_rows((-6, 10, 15, 19), modulus).items(), 0, None, step):
                self.assertEqual(met(Four((-6, 10, 15, 19)), modulus, row).letters, word)

    def test_no_word_comes_ahead(self):
        for modulus in (3, 5, 8, 24):
            for word in words_up_to(4):
                row = tuple(bend % modulus for bend in walked(COINS.bends, word))
                told = met(COINS, modulus, row).letters
                self.assertLessEqual((len(told), told), (len(word), word))
                self.assertEqual(tuple(bend % modulus for bend in walked(COINS.bends, told)), row)

    def test_rows_that_do_not_come(self):
        for start in ((-3, 5, 8, 8), (0, 1, 0, 1), (-2, 3, 6, 7)):
            for modulus in (2, 3, 4, 5, 6):
                for row in itertools.product(range(modulus), repeat=4):
                    if row not in own_rows(start, modulus):
                        self.check_unmet(start, modulus, row)

    def test_rows_by_greater_moduli(self):
        for modulus in (7, 9, 10, 11, 12, 13, 24):
            for number in range(0, modulus ** 4, modulus ** 4 // 40):
                row = tuple(number // modulus ** index % modulus for index in range(4))
                if row not in own_rows((-3, 5, 8, 8), modulus):
                    self.check_unmet((-3, 5, 8, 8), modulus, row)

    def check_unmet(self, start, modulus, row):
        """The first pillar by which the row does not come is told."""
        told = met(Four(start), modulus, row)
        self.assertIsInstance(told, Unmet)
        barred = [pillar for pillar in PILLARS[modulus]
                  if tuple(each % pillar for each in row) not in own_rows(start, pillar)]
        self.assertEqual(told.by, barred[0])

    def test_both_pillars(self):
        self.assertEqual(met(COINS, 24, (0, 0, 0, 0)), Unmet(3))
        self.assertEqual(met(COINS, 12, (0, 1, 0, 0)), Unmet(3))
        self.assertEqual(met(COINS, 12, (1, 9, 8, 9)), Unmet(3))
        self.assertEqual(met(COINS, 12, (9, 5, 8, 9)), Unmet(4))
        self.assertEqual(met(COINS, 10, (1, 2, 3, 4)).by, 2)
        self.assertEqual(met(COINS, 10, (5, 5, 0, 0)).by, 5)
        self.assertEqual(met(four=COINS, modulus=4, row=[1, 1, 0, 2]).parts, (4,))

    def test_errors(self):
        for value in ODD_VALUES + ((-3, 5, 8, 8), [0, 0, 1, 1], 0):
            self.assert_error(BadFour("four"), met, value, None, None)
        for value in ODD_VALUES + NO_MODULI:
            self.assert_error(BadNumber("modulus"), met, COINS, value, None)
        for value in ODD_VALUES + (
            0, [], [1], (1, 1, 0), (1, 1, 0, 0, 0), (1, 1, 0, -1), (1, 1, 0, 5), (5, 1, 0, 0), (-5, 1, 0, 0),
            (True, True, False, False), (1, 1, 0, False), (1, 1, 0, 0.0), (1, 1, 0, "0"), (1, 1, 0, None), "1100",
            ((1, 1, 0, 0),), {0: 1, 1: 1, 2: 0, 3: 0}, (1, 1, 0, 10 ** 60),
        ):
            self.assert_error(BadNumber("row"), met, COINS, 5, value)
        for modulus in MODULI:
            self.assert_error(BadNumber("row"), met, COINS, modulus, (0, 0, 0, modulus))
            self.assertIn(type(met(COINS, modulus, (0, 0, 0, modulus - 1))), (Met, Unmet))


if __name__ == "__main__":
    unittest.main()
