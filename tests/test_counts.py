"""Primes, how many forms and fours there are, how many circles touch."""

import math
import time
import unittest

from bendsigns.counts import (
    many_least_forms, many_own_mirrors, many_rim_fours, many_touching, prime_powers,
)
from bendsigns.errors import BadFour, BadNumber, Flat, NoPlace
from bendsigns.fours import Four
from bendsigns.rims import is_own_mirror, rim_fours
from bendsigns.touching import touching
from tests.helps import ODD_VALUES, Case
from tests.walks import least_numbers, walked


class Primes(Case):
    """Numbers as products of powers of primes."""

    def test_small_ones(self):
        for number in range(1, 3000):
            told = prime_powers(number)
            self.assertIs(type(told), tuple)
            self.assertEqual(math.prod(prime ** power for prime, power in told), number)
            self.assertEqual([prime for prime, power in told], sorted({prime for prime, power in told}))
            for prime, power in told:
                self.assertTrue(power > 0 and all(prime % other for other in range(2, prime)))

    def test_great_ones(self):
        for number, wanted in ((1, ()), (2, ((2, 1),)), (999983, ((999983, 1),)), (1000000, ((2, 6), (5, 6))),
                               (524288, ((2, 19),)), (531441, ((3, 12),)), (994009, ((997, 2),)), (999999, (
                                   (3, 3), (7, 1), (11, 1), (13, 1), (37, 1)))):
            self.assertEqual(prime_powers(number=number), wanted)

    def test_errors(self):
        for value in ODD_VALUES + (0, -1, 1000001, 10 ** 60, [], [5]):
            self.assert_error(BadNumber("number"), prime_powers, value)

    def test_short_time(self):
        began = time.process_time()
        prime_powers(999983)
        many_rim_fours(999983)
        self.assertLess(time.process_time() - began, 5)


class Products(Case):
    """What the products tell, against lists."""

    def test_against_lists(self):
        for number in range(1, 61):
            fours = rim_fours(number)
            self.assertEqual(many_rim_fours(number), len(fours))
            self.assertEqual(many_own_mirrors(number), sum(is_own_mirror(four) for four in fours))
            self.assertEqual(many_least_forms(number), len(least_numbers(number)))

    def test_beyond_the_lists(self):
        for number in (61, 64, 90, 97, 125, 143, 150):
            rows = least_numbers(number)
            own = [row for row in rows if row[1] == 0 or row[0] in (2 * row[1], row[2])]
            self.assertEqual(many_least_forms(side=number), len(rows))
            self.assertEqual(many_own_mirrors(rim=number), len(own))
            self.assertEqual(many_rim_fours(rim=number), len([row for row in rows if row[1] >= 0]))

    def test_primes_and_powers(self):
        for number, forms, mirrors in ((1, 1, 1), (2, 1, 1), (4, 2, 2), (8, 4, 2), (524288, 262144, 2), (3, 2, 2), (5, 2, 2),
                                       (9, 6, 2), (13, 6, 2), (25, 10, 2), (999983, 499992, 2), (6, 4, 2), (10, 4, 2),
                                       (12, 8, 4), (999999, None, 32), (999998, None, None)):
            if forms is not None:
                self.assertEqual(many_least_forms(number), forms)
            if mirrors is not None:
                self.assertEqual(many_own_mirrors(number), mirrors)
            self.assertEqual(2 * many_rim_fours(number), many_least_forms(number) + many_own_mirrors(number))

    def test_errors(self):
        for value in ODD_VALUES + (0, -1, 1000001, 10 ** 60, [], [5]):
            self.assert_error(BadNumber("side"), many_least_forms, value)
            self.assert_error(BadNumber("rim"), many_own_mirrors, value)
            self.assert_error(BadNumber("rim"), many_rim_fours, value)


class Touched(Case):
    """How many circles of one bend touch another circle."""

    def test_against_lists(self):
        for bends in ((-3, 5, 8, 8), (0, 0, 1, 1), (-1, 2, 2, 3), (45, 5, 8, 8), (-12, 25, 25, 28)):
            for place in range(4):
                bend = bends[place]
                if bend == 0:
                    continue
                told = [row[0] for row in touching(Four(bends), place, 300)]
                for number in range(1 - bend, min(301, 2001 - bend)):
                    self.assertEqual(many_touching(Four(bends), place, number), told.count(number))

    def test_all_gaskets_with_a_rim(self):
        # Over all gaskets with one rim a bend touches as often as such t are there, as the document tells.
        for number in (1, 2, 3, 5, 6, 8, 12):
            for worth in range(1, 80):
                wanted = sum((t * t + number * number) % worth == 0
                             and math.gcd(worth, t, (t * t + number * number) // worth) == 1 for t in range(worth))
                told = 0
                for four in rim_fours(number):
                    once = many_touching(four, 0, worth + number)
                    told += once if is_own_mirror(four) else 2 * once
                self.assertEqual(told, wanted * (2 if number == 1 else 1))

    def test_fours_far_out(self):
        bends = walked((0, 0, 1, 1), [turn % 4 for turn in range(300)])
        self.assertEqual(many_touching(four=Four(bends), place=1, number=2000 - bends[1]), 0)
        self.assertEqual(many_touching(Four((-3, 5, 8, 8)).after([1, 2, 1, 2]), 1, -3), 1)

    def test_bounds(self):
        three = Four((-3, 5, 8, 8))
        for number in (4, 2003):
            self.assertIsInstance(many_touching(three, 0, number), int)
        for number in (3, 2004, -3, -10 ** 60, 10 ** 60):
            self.assert_error(BadNumber("number"), many_touching, three, 0, number)

    def test_errors(self):
        three, flat = Four((-3, 5, 8, 8)), Four((0, 0, 1, 1))
        for value in ODD_VALUES + ((-3, 5, 8, 8), [0]):
            self.assert_error(BadFour("four"), many_touching, value, 9, None)
        for value in ODD_VALUES + (-1, 4, [0]):
            self.assert_error(NoPlace(value), many_touching, flat, value, None)
        for value in ODD_VALUES + ([5],):
            self.assert_error(BadNumber("number"), many_touching, three, 0, value)
        self.assert_error(BadNumber("number"), many_touching, flat, 0, 0)
        self.assert_error(Flat(), many_touching, flat, 0, 1)


if __name__ == "__main__":
    unittest.main()
