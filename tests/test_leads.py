"""Leads of two circles of a four."""

import itertools
import math
import time
import unittest

from bendsigns.errors import BadFour, Misfit, NoPlace, Twice
from bendsigns.fours import Four
from bendsigns.fourthsymbols import fourth_symbol
from bendsigns.leads import lead
from bendsigns.pairs import Pair
from bendsigns.rims import rim_fours
from tests import gauss
from tests.helps import ODD_VALUES, Case
from tests.walks import walked

ODD, FLAT = Four((-12, 25, 25, 28)), Four((0, 0, 1, 1))
PAIRS = tuple(itertools.permutations(range(4), 2))


def own_lead(bends, place, other):
    """The lead, by trying all pairs with the norm that it has."""
    near, far = [bends[at] for at in range(4) if at not in (place, other)]
    here, there = bends[place], bends[other]
    half = (here + there + near - far) // 2
    found = []
    for one in range(1, math.isqrt(here + there) + 1):
        rest = math.isqrt(here + there - one * one)
        if one * one + rest * rest == here + there and gauss.divides((one, rest), (half, here)):
            found.append((one, rest))
    (told,) = found
    return told


class Leads(Case):
    """lead."""

    def check(self, four, place, other):
        """The lead, or what is missing."""
        here, there = four.bends[place], four.bends[other]
        if here % 2 == 0:
            self.assert_error(Misfit("odd"), lead, four, place, other)
        elif math.gcd(here, there) != 1:
            self.assert_error(Misfit("divisor"), lead, four, place, other)
        else:
            told = lead(four, place, other)
            self.assertIs(type(told), Pair)
            self.assertEqual(told.norm, here + there)
            self.assertEqual((told.one, told.other), own_lead(four.bends, place, other))

    def test_all_small_rims(self):
        for four in [FLAT] + [four for number in range(1, 31) for four in rim_fours(number)]:
            for each in (four, four.in_order((3, 1, 0, 2)), four.in_order((1, 2, 3, 0)), four.after([2, 0])):
                for place, other in PAIRS:
                    self.check(each, place, other)

    def test_from_both_sides(self):
        # For n odd the lead of n with m is kin of that of m with n, flipped.
        for number in range(1, 25):
            for four in rim_fours(number):
                for place, other in PAIRS:
                    here, there = four.bends[place], four.bends[other]
                    if here % 2 and there % 2 and math.gcd(here, there) == 1:
                        told, back = lead(four, place, other), lead(four, other, place)
                        self.assertIn(told.flipped(), [back.times_i(turn) for turn in range(4)])

    def test_one_symbol_round_a_circle(self):
        seen = set()
        for word in ((), (0,), (2, 3), (3, 2, 3), (0, 2, 0)):
            four = Four(walked(ODD.bends, word))
            for other in (0, 2, 3):
                if math.gcd(four.bends[other], 25) == 1:
                    seen.add(fourth_symbol(lead(four, 1, other), Pair(25, 0)))
        self.assertEqual(seen, {2})

    def test_flat(self):
        self.assertEqual(lead(four=FLAT, place=2, other=0), Pair(1, 0))
        self.assertEqual(lead(FLAT, 2, 3).norm, 2)
        self.assert_error(Misfit("odd"), lead, FLAT, 0, 1)
        self.assert_error(Misfit("odd"), lead, FLAT, 0, 2)

    def test_far_fours(self):
        began = time.process_time()
        four = Four(walked(ODD.bends, [at % 4 for at in range(300)]))
        many = 0
        for place, other in PAIRS:
            if four.bends[place] % 2 and math.gcd(four.bends[place], four.bends[other]) == 1:
                told = lead(four, place, other)
                self.assertEqual(told.norm, four.bends[place] + four.bends[other])
                self.assertTrue(told.one > 0 and told.other >= 0)
                many += 1
        self.assertGreater(many, 0)
        self.assertLess(time.process_time() - began, 3)

    def test_errors(self):
        for value in ODD_VALUES + ((-3, 5, 8, 8), [0, 0, 1, 1], 0):
            self.assert_error(BadFour("four"), lead, value, None, None)
        for value in ODD_VALUES + (-1, 4, 10 ** 60, [0], (1,)):
            self.assert_error(NoPlace(value), lead, ODD, value, 9)
            self.assert_error(NoPlace(value), lead, ODD, 0, value)
        for place in range(4):
            self.assert_error(Twice(place), lead, ODD, place, place)
        self.assert_error(Misfit("odd"), lead, ODD, 0, 3)
        self.assert_error(Misfit("divisor"), lead, ODD, 1, 2)
        self.assert_error(Misfit("odd"), lead, ODD, 3, 1)


if __name__ == "__main__":
    unittest.main()
