"""Families of numbers, which kinds need which sign, and which families are barred."""

import math
import time
import unittest

from bendsigns.errors import BadFour, BadKind, BadNumber, Flat, TooMany
from bendsigns.families import families, family_of, first_member, need
from bendsigns.fours import Four
from bendsigns.kinds import Kind, kind_of
from bendsigns.rims import rim_fours
from tests.helps import ODD_VALUES, Case, Looser, look_alike
from tests.walks import all_circles, sign_near, walked, words_up_to

KS = (1, 2, 3, 6)
NO_KS = ODD_VALUES + (6.0, 2.0, 0, -1, 4, 5, 7, -6, 36, 10 ** 60, [1], (1,))
TABLE = {
    (1, 1): (1, 1, 1, 1), (1, 2): (1, 1, -1, -1), (5, 1): (1, -1, 1, -1), (5, 2): (1, -1, -1, 1),
    (3, 1): (0, 1, -1, -1), (3, 2): (0, 1, 1, 1),
}
COINS, FLAT = Four((-3, 5, 8, 8)), Four((0, 0, 1, 1))
ALL = (FLAT,) + tuple(four for number in range(1, 31) for four in rim_fours(number))
BIG = 10 ** 29 + 57


class Needs(Case):
    """need."""

    def test_all(self):
        for (odd, third), wanted in TABLE.items():
            self.assertEqual(tuple(need(Kind(odd, third), k) for k in KS), wanted)
            self.assertEqual(need(kind=Kind(odd, third), k=6), wanted[3])

    def test_errors(self):
        for value in ODD_VALUES + ((5, 2), [5, 2], 5, "5 2", COINS, Looser(), look_alike("Kind", odd=5, third=2)):
            self.assert_error(BadKind("kind"), need, value, None)
        for value in NO_KS:
            self.assert_error(BadNumber("k"), need, Kind(5, 2), value)


class Numbers(Case):
    """family_of."""

    def test_small_numbers(self):
        wanted = {k * root * root: (k, root) for k in KS for root in range(1, 60)}
        for number in range(1, 3000):
            told = family_of(number)
            self.assertEqual(told, wanted.get(number))
            self.assertIs(type(told), tuple if number in wanted else type(None))

    def test_great_numbers(self):
        for root in (BIG, BIG - 1, 10 ** 29, 6 * 10 ** 28, 2 ** 98, 3 ** 61):
            for k in KS:
                number = k * root * root
                self.assertEqual(family_of(number=number), (k, root))
                for near in (number - 1, number + 1, 5 * number, 7 * number):
                    self.assertIsNone(family_of(near))

    def test_errors(self):
        for value in ODD_VALUES + (0, -1, -4, -10 ** 60, [4], []):
            self.assert_error(BadNumber("number"), family_of, value)


class Barred(Case):
    """families."""

    def test_all_small_rims(self):
        for four in ALL:
            kind = kind_of(four)
            wanted = tuple(k for k, needed in zip(KS, TABLE[kind.odd, kind.third]) if needed != sign_near(four.bends))
            for each in (four, four.in_order((2, 0, 3, 1)), four.after([1, 3, 2])):
                self.assertEqual(families(each), wanted)
        self.assertEqual(families(four=FLAT.after([0, 1])), ())

    def test_no_circle_is_in_a_barred_family(self):
        seen = set()
        for four in ALL[:40]:
            barred = families(four)
            for bend, letters, place in all_circles(four.bends, 120) if four != FLAT else ():
                if bend > 0 and family_of(bend) is not None:
                    self.assertNotIn(family_of(bend)[0], barred)
                    seen.add(family_of(bend)[0])
        self.assertEqual(seen, set(KS))

    def test_far_fours(self):
        for letters in (200, 201, 300):
            four = Four(walked(COINS.bends, [at % 4 for at in range(letters)]))
            self.assertEqual(families(four), (1, 6))

    def test_errors(self):
        for value in ODD_VALUES + ((-3, 5, 8, 8), [0, 0, 1, 1], 0):
            self.assert_error(BadFour("four"), families, value)


class Members(Case):
    """first_member."""

    def own_member(self, four, k, most):
        """The first circle of an own list whose bend is k times a square."""
        for bend, letters, place in all_circles(four.bends, most):
            if bend > 0 and bend % k == 0 and math.isqrt(bend // k) ** 2 == bend // k:
                return letters, place, math.isqrt(bend // k)
        return None

    def test_against_a_list(self):
        for four in ALL[1:12]:
            for k in KS:
                for most in (1, 9, 30, 150):
                    told = first_member(four, k, most)
                    self.assertEqual(told, self.own_member(four, k, most))
                    self.assertEqual(first_member(four=four.after([2, 1]), k=k, most=most), told)
                    self.assertTrue(told is None or k not in families(four))

    def test_bounds(self):
        self.assertEqual(first_member(COINS, 3, 12), ((2,), 2, 2))
        self.assertIsNone(first_member(COINS, 3, 11))
        self.assertIsNone(first_member(COINS, 1, 300))
        self.assertEqual(first_member(Four((-1, 2, 2, 3)), 3, 3), ((), 3, 1))
        self.assertEqual(first_member(COINS, 2, 300), self.own_member(COINS, 2, 300))

    def test_order_of_errors(self):
        word = [at % 4 for at in range(201)]
        far, far_flat = Four(walked(COINS.bends, word)), Four(walked((0, 0, 1, 1), word))
        for value in ODD_VALUES + ((-3, 5, 8, 8), [0, 0, 1, 1], 0):
            self.assert_error(BadFour("four"), first_member, value, None, None)
        for value in NO_KS:
            self.assert_error(BadNumber("k"), first_member, far_flat, value, None)
        for value in ODD_VALUES + (0, -3, 301, 10 ** 60, [5]):
            self.assert_error(BadNumber("most"), first_member, far_flat, 1, value)
        self.assert_error(TooMany("letters", 200), first_member, far_flat, 1, 300)
        self.assert_error(TooMany("letters", 200), first_member, far, 6, 1)
        self.assert_error(Flat(), first_member, FLAT, 1, 300)
        self.assert_error(Flat(), first_member, Four(walked((0, 0, 1, 1), word[:200])), 1, 300)
        near = Four(walked(COINS.bends, word[:200]))
        self.assertEqual(first_member(near, 2, 9), ((), 2, 2))

    def test_short_time(self):
        began = time.process_time()
        for k in KS:
            first_member(Four((-1, 2, 2, 3)), k, 300)
        for start in ((0, 0, 1, 1), (-3, 5, 8, 8)):
            for word in words_up_to(2):
                families(Four(walked(start, word)))
        self.assertLess(time.process_time() - began, 3)


if __name__ == "__main__":
    unittest.main()
