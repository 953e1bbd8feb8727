"""Fours turned inside out, and the gaskets that come of turning a gasket."""

import itertools
import time
import unittest

from bendsigns.errors import BadFour, BadNumber, NoPlace, TooMany
from bendsigns.fours import Four
from bendsigns.leasts import least_bends, rim
from bendsigns.rims import rim_fours
from bendsigns.turned import turned, turned_out
from tests.helps import ODD_VALUES, Case
from tests.walks import exchanged, fits, fours_near, lowered, turn, walked, words_up_to

COINS, FLAT = Four((-3, 5, 8, 8)), Four((0, 0, 1, 1))
PLACES = (0, 1, 2, 3)


def starts(most):
    """All least fours of rims up to a bound and the flat one, each in three orders of places."""
    fours = [FLAT] + [four for number in range(1, most + 1) for four in rim_fours(number)]
    for four in fours:
        for order in ((0, 1, 2, 3), (2, 0, 3, 1), (3, 2, 1, 0)):
            yield four.in_order(order)


class Turned(Case):
    """One turning."""

    def test_all_places(self):
        for four in starts(30):
            for place in PLACES:
                told = turned(four, place)
                self.assertIsInstance(told, Four)
                self.assertEqual(told.bends, turn(four.bends, place))
                self.assertEqual(turned(told, place), four)
                self.assertTrue(fits(told.bends))

    def test_far_from_the_least_one(self):
        for start in ((-3, 5, 8, 8), (1, 0, 0, 1), (-6, 10, 15, 19)):
            for word in words_up_to(4):
                bends = walked(start, word)
                for place in PLACES:
                    told = turned(Four(bends), place)
                    self.assertEqual(told.bends, turn(bends, place))
                    self.assertEqual(turned(four=told, place=place).bends, bends)
        far = Four(walked((-3, 5, 8, 8), [at % 4 for at in range(400)]))
        self.assertEqual(turned(far, 2).bends, turn(far.bends, 2))

    def test_an_exchange_at_another_place(self):
        for four in starts(8):
            for place, other in itertools.permutations(PLACES, 2):
                self.assertEqual(turned(four.exchanged(other), place), turned(four, place).exchanged(other))

    def test_lines_stay(self):
        self.assertEqual(turned(FLAT, 0), FLAT)
        self.assertEqual(turned(FLAT, 3).bends, (2, 2, 3, -1))
        self.assertEqual(turned(Four((-1, 2, 2, 3)), 0).bends, (1, 0, 0, 1))

    def test_errors(self):
        for value in ODD_VALUES + ((-3, 5, 8, 8), [0, 0, 1, 1], 0):
            self.assert_error(BadFour("four"), turned, value, None)
        for value in ODD_VALUES + (-1, 4, 10 ** 60, [0], (1,)):
            self.assert_error(NoPlace(value), turned, COINS, value)
        self.assertEqual(COINS.bends, (-3, 5, 8, 8))


class TurnedOut(Case):
    """All gaskets that come of turning where a bend stands."""

    def own(self, bends, most):
        """For each bend up to most the gaskets that come, by turning all fours near by at all places."""
        found = {bend: set() for bend in range(1, most + 1)}
        for now in fours_near(bends, most):
            for place in PLACES:
                if 1 <= now[place] <= most:
                    found[now[place]].add(tuple(sorted(lowered(turn(now, place))[0])))
        return found

    def check(self, start, far, most, bends):
        """What is told for some bends, from two fours of a gasket."""
        found = self.own(start, most)
        for bend in bends:
            told = turned_out(Four(far), bend)
            self.assertEqual(told, tuple(sorted(found[bend])), (start, bend))
            self.assertEqual(turned_out(four=Four(start), bend=bend), told)

    def test_small_rims(self):
        for four in starts(6):
            self.check(four.bends, walked(four.bends, (1, 0, 3)), 40, range(1, 41))

    def test_all_bends(self):
        for bends in ((0, 0, 1, 1), (-1, 2, 2, 3), (-3, 5, 8, 8)):
            self.check(bends, walked(bends, (0, 1, 2, 3)), 60, range(1, 61))

    def test_what_comes(self):
        for bend in range(1, 61):
            for start in ((0, 0, 1, 1), (-2, 3, 6, 7), (-12, 25, 25, 28)):
                for bends in turned_out(Four(start), bend):
                    self.assertIs(type(bends), tuple)
                    self.assertEqual((bends[0], rim(Four(bends)), least_bends(Four(bends))), (-bend, bend, bends))

    def test_every_gasket_comes_once(self):
        # All gaskets of a rim come of circles of this bend in gaskets that are flat or have a lesser rim.
        for number in range(1, 25):
            below = [FLAT] + [four for lesser in range(1, number) for four in rim_fours(lesser)]
            come = [bends for four in below for bends in turned_out(four, number)]
            self.assertEqual(sorted(come), [four.bends for four in rim_fours(number)])

    def test_edges(self):
        self.assertEqual(turned_out(COINS, 1), ())
        self.assertEqual(turned_out(COINS, 3), ())
        self.assertEqual(turned_out(FLAT, 1), ((-1, 2, 2, 3),))
        self.assertEqual(turned_out(Four((-59, 60, 3540, 3541)), 60), ((-60, 61, 3660, 3661),))
        self.assertEqual(turned_out(Four((-60, 61, 3660, 3661)), 60), ())
        self.assertEqual(turned_out(Four((-1, 2, 2, 3)), 2), ((-2, 3, 6, 7),))

    def test_errors(self):
        for value in ODD_VALUES + ((-3, 5, 8, 8), [0, 0, 1, 1], 0):
            self.assert_error(BadFour("four"), turned_out, value, None)
        far = Four(walked((-3, 5, 8, 8), [at % 4 for at in range(201)]))
        for value in ODD_VALUES + (0, -1, -3, 61, 10 ** 60, [5], []):
            self.assert_error(BadNumber("bend"), turned_out, COINS, value)
            self.assert_error(BadNumber("bend"), turned_out, far, value)

    def test_two_hundred_exchanges(self):
        for start, first in (((-3, 5, 8, 8), 0), ((0, 0, 1, 1), 0)):
            word = [(at + first) % 4 for at in range(201)]
            near, far = Four(walked(start, word[:200])), Four(walked(start, word))
            self.assertEqual(len(lowered(far.bends)[1]), 201)
            for bend in (1, 8, 12, 60):
                self.assertEqual(turned_out(near, bend), turned_out(Four(start), bend))
                self.assert_error(TooMany("letters", 200), turned_out, far, bend)

    def test_short_time(self):
        began = time.process_time()
        for four in (FLAT, COINS, Four((-1, 2, 2, 3)), Four((-2, 3, 6, 7))):
            turned_out(four, 60)
        self.assertLess(time.process_time() - began, 5)


if __name__ == "__main__":
    unittest.main()
