"""Fourth families: which numbers are in one, what kinds need, and which families are barred."""

import time
import unittest

from bendsigns.errors import BadFour, BadKind, BadNumber, Misfit
from bendsigns.fourthfamilies import fourth_families, fourth_family_of, fourth_need, fourths_barred
from bendsigns.fours import Four
from bendsigns.kinds import Kind, kind_of
from bendsigns.rims import rim_fours
from tests.fourths import fours_with_fourth_signs, what_is_missing
from tests.helps import ODD_VALUES, Case, Looser, look_alike
from tests.walks import all_circles, walked, words_up_to

KS = (1, 4, 9, 36)
NO_KS = ODD_VALUES + (4.0, 9.0, 0, -1, 2, 3, 6, 16, 18, 35, 37, -36, 10 ** 60, [1], (1,), [4], Looser())
NO_KINDS = ODD_VALUES + ((1, 2), [1, 2], 1, "1 2", Four((0, 0, 1, 1)), Looser(), look_alike("Kind", odd=1, third=2))
ODD, FLAT = Four((-12, 25, 25, 28)), Four((0, 0, 1, 1))
FOURS = fours_with_fourth_signs(40)


class Needs(Case):
    """fourth_need."""

    def test_all(self):
        self.assertEqual([fourth_need(Kind(1, 1), k) for k in KS], [1, 1, 1, 1])
        self.assertEqual([fourth_need(Kind(1, 2), k) for k in KS], [1, 1, -1, -1])
        self.assertEqual(fourth_need(kind=Kind(1, 2), k=36), -1)

    def test_other_kinds(self):
        for odd in (3, 5):
            for third in (1, 2):
                for k in KS:
                    self.assert_error(Misfit("kind"), fourth_need, Kind(odd, third), k)

    def test_errors(self):
        for value in NO_KINDS:
            self.assert_error(BadKind("kind"), fourth_need, value, None)
            self.assert_error(BadKind("kind"), fourth_need, value, 4)
        for value in NO_KS:
            for kind in (Kind(1, 1), Kind(1, 2), Kind(5, 2), Kind(3, 1)):
                self.assert_error(BadNumber("k"), fourth_need, kind, value)


class Numbers(Case):
    """fourth_family_of."""

    def test_small_numbers(self):
        wanted = {k * root ** 4: (k, root) for k in KS for root in range(1, 30)}
        self.assertEqual(len(wanted), 4 * 29)
        for number in range(1, 20000):
            told = fourth_family_of(number)
            self.assertEqual(told, wanted.get(number))
            self.assertIs(type(told), tuple if number in wanted else type(None))

    def test_great_numbers(self):
        for root in (10 ** 14 + 31, 10 ** 14, 6 ** 18, 2 ** 48, 3 ** 30, 3 * 10 ** 13 + 1, 2):
            for k in KS:
                number = k * root ** 4
                self.assertLess(number, 10 ** 60)
                self.assertEqual(fourth_family_of(number=number), (k, root))
                for near in (number - 1, number + 1, 2 * number, 5 * number, 18 * number, 6 * number):
                    self.assertIsNone(fourth_family_of(near), near)

    def test_squares_alone(self):
        for root in (2, 3, 5, 6, 10, 10 ** 14 + 31, 10 ** 29 + 57):
            told = fourth_family_of(root * root)
            self.assertEqual(told, {2: (4, 1), 3: (9, 1), 6: (36, 1)}.get(root))

    def test_errors(self):
        for value in ODD_VALUES + (0, -1, -16, -10 ** 60, [16], [], 16.0, Looser()):
            self.assert_error(BadNumber("number"), fourth_family_of, value)


class Barred(Case):
    """fourth_families."""

    def test_all_small_rims(self):
        seen = set()
        for four, value in FOURS + ((FLAT, 1),):
            needed = (1, 1, 1, 1) if kind_of(four).third == 1 else (1, 1, -1, -1)
            wanted = tuple(k for k, sign in zip(KS, needed) if sign != value)
            seen.add(wanted)
            for each in (four, four.in_order((2, 0, 3, 1)), four.after([1, 3, 2])):
                self.assertEqual(fourth_families(each), wanted)
                self.assertEqual(fourths_barred(each), wanted)
        self.assertEqual(seen, {(), (1, 4), (9, 36), (1, 4, 9, 36)})
        self.assertEqual(fourth_families(four=FLAT), ())

    def test_fours_without_a_fourth_sign(self):
        seen = set()
        for number in range(1, 31):
            for four in rim_fours(number):
                told = what_is_missing(four.bends)
                if told is not None:
                    self.assert_error(Misfit(told), fourth_families, four)
                    self.assertEqual(fourths_barred(four), ())
                    seen.add(told)
        self.assertEqual(seen, {"kind", "sign"})

    def test_no_circle_is_in_a_barred_fourth_family(self):
        seen = set()
        for four, value in FOURS:
            barred = fourth_families(four)
            for bend, letters, place in all_circles(four.bends, 700):
                found = fourth_family_of(bend) if bend > 0 else None
                if found is not None:
                    self.assertNotIn(found[0], barred)
                    seen.add(found)
        self.assertTrue({(1, 2), (1, 3), (4, 2), (9, 1), (9, 2), (36, 1)} <= seen, seen)

    def test_far_fours(self):
        began = time.process_time()
        for many in (200, 201, 300):
            four = Four(walked(ODD.bends, [at % 4 for at in range(many)]))
            self.assertEqual(fourth_families(four), KS)
        for word in words_up_to(3):
            self.assertEqual(fourth_families(Four(walked((-7, 8, 56, 57), word))), (9, 36))
        self.assertLess(time.process_time() - began, 3)

    def test_errors(self):
        for value in ODD_VALUES + ((-12, 25, 25, 28), [0, 0, 1, 1], 0):
            self.assert_error(BadFour("four"), fourth_families, value)
        self.assert_error(Misfit("kind"), fourth_families, Four((-3, 5, 8, 8)))
        self.assert_error(Misfit("sign"), fourth_families, Four((-15, 24, 41, 44)))


if __name__ == "__main__":
    unittest.main()
