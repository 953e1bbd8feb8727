"""Signs of pairs, of fours, of turnings and pedigrees."""

import itertools
import math
import time
import unittest

from bendsigns.check_signs import shows_sign
from bendsigns.errors import BadFour, BadNumber, Misfit, TooMany
from bendsigns.fans import fan
from bendsigns.fours import Four
from bendsigns.rims import rim_fours
from bendsigns.signs import Sign, pair_sign, pedigree_sign, sign, turn_sign
from bendsigns.symbols import symbol
from bendsigns.turned import turned
from tests.helps import ODD_VALUES, Case
from tests.walks import own_pair_sign, sign_near, walked, words_up_to

BIG = 10 ** 59 + 9
FLAT = Four((0, 0, 1, 1))
ALL = (FLAT,) + tuple(four for number in range(1, 31) for four in rim_fours(number))


def first_circle(four):
    """The place of a pair, and the first circle of its fan whose bend is coprime to the one there."""
    place = [at for at in range(4) if four.bends[at]][0]
    for letters, at, bend in fan(four, place, (place + 1) % 4):
        if math.gcd(bend, four.bends[place]) == 1:
            return place, letters, at, bend


class PairSigns(Case):
    """pair_sign."""

    def test_small_pairs(self):
        for one, other in itertools.product(range(-40, 41), repeat=2):
            if math.gcd(one, other) == 1:
                self.assertEqual(pair_sign(one, other), own_pair_sign(one, other), (one, other))
            else:
                self.assert_error(Misfit("divisor"), pair_sign, one, other)

    def test_which_is_taken(self):
        # 3 and 5 touch in no four: by 5 the sign is that of 3, by 3 that of 10.
        self.assertEqual((pair_sign(3, 5), pair_sign(5, 3)), (symbol(3, 5), symbol(10, 3)))
        self.assertEqual((pair_sign(one=3, other=5), pair_sign(other=3, one=5)), (-1, 1))
        self.assertEqual((pair_sign(8, 5), pair_sign(5, 8)), (-1, -1))

    def test_lines(self):
        for one, other in ((0, 1), (1, 0), (0, -1), (-1, 0), (1, 1), (-1, 1), (1, -1), (-1, -1)):
            self.assertEqual(pair_sign(one, other), 1)
        for one, other in ((0, 0), (0, 2), (-3, 0), (0, 5)):
            self.assert_error(Misfit("divisor"), pair_sign, one, other)

    def test_great_pairs(self):
        for one, other in ((BIG, 8), (8, BIG), (-BIG, 55), (BIG - 2, BIG), (2, -BIG), (BIG * BIG, 3)):
            number, odd = (one, other) if other % 2 else (other, one)
            self.assertEqual(pair_sign(one, other), symbol(number if odd % 4 == 1 else 2 * number, abs(odd)))
        self.assertEqual(pair_sign(BIG, 55), own_pair_sign(BIG, 55))

    def test_errors(self):
        for value in ODD_VALUES + ([], [1]):
            self.assert_error(BadNumber("one"), pair_sign, value, None)
            self.assert_error(BadNumber("other"), pair_sign, 10, value)


class FourSigns(Case):
    """sign."""

    def check(self, four, value):
        """The value, and the circle of the fan that was taken."""
        told = sign(four)
        place, letters, at, bend = first_circle(four)
        self.assertIsInstance(told, Sign)
        self.assertEqual(told.parts, (value, letters, place, at))
        self.assertEqual(told.value, own_pair_sign(four.bends[place], bend))
        self.assert_true(shows_sign(four, told))

    def test_all_orders_and_words(self):
        for four in ALL:
            value = sign_near(four.bends)
            for order in itertools.islice(itertools.permutations(range(4)), 0, None, 5):
                self.check(four.in_order(order), value)
            for word in ((), (0,), (3,), (1, 2)):
                self.check(four.after(word), value)

    def test_along_words(self):
        for start in ((0, 0, 1, 1), (-3, 5, 8, 8), (-12, 25, 25, 28), (-2, 3, 6, 7)):
            for word in words_up_to(4):
                self.assertEqual(sign(four=Four(walked(start, word))).value, sign(Four(start)).value)

    def test_the_fan_goes_on(self):
        # Some fours have no coprime circle beside the first two: words are needed.
        lengths = {len(sign(four.in_order(order)).letters)
                   for four in ALL for order in itertools.permutations(range(4))}
        self.assertTrue({0, 1} < lengths)

    def test_far_from_the_least_one(self):
        for start, first in (((-3, 5, 8, 8), 0), ((-6, 10, 15, 19), 0), ((0, 0, 1, 1), 0)):
            for letters in (200, 201, 400):
                four = Four(walked(start, [(first + at) % 4 for at in range(letters)]))
                told = sign(four)
                self.assertEqual(told.value, sign_near(start))
                self.assert_true(shows_sign(four, told))

    def test_what_comes_of_turning(self):
        for four in ALL:
            for place in range(4):
                value = sign(four).value * turn_sign(four.bends[place])
                self.assertEqual(sign(turned(four, place)).value, value)

    def test_errors(self):
        for value in ODD_VALUES + ((-3, 5, 8, 8), [0, 0, 1, 1], 0):
            self.assert_error(BadFour("four"), sign, value)

    def test_short_time(self):
        began = time.process_time()
        for start in ((-3, 5, 8, 8), (-6, 10, 15, 19), (-30, 31, 930, 931)):
            for letters in range(150, 201, 10):
                sign(Four(walked(start, [at % 4 for at in range(letters)])))
        number = 2 * 3 * 5 * 7 * 11 * 13 * 17 * 19 * 23 * 29 * 31 * 37 * 41 * 43 * 47 * 53 * 59 * 61 * 67
        square = number * number + number
        for order in itertools.permutations(range(4)):
            sign(Four((-number, number + 1, square, square + 1)).in_order(order))
        self.assertLess(time.process_time() - began, 3)


class Turnings(Case):
    """turn_sign and pedigree_sign."""

    def test_turn_sign(self):
        for bend in range(-50, 50):
            for number in (bend, bend + 8 * BIG, bend - 8 * BIG):
                self.assertEqual(turn_sign(number), {0: 1, 1: 1, 2: -1, 3: -1, 4: 1, 5: -1, 6: -1, 7: 1}[bend % 8])
        self.assertEqual(turn_sign(bend=10 ** 999), 1)
        for value in ODD_VALUES + ([], [1]):
            self.assert_error(BadNumber("bend"), turn_sign, value)

    def test_pedigree_sign(self):
        for four in ALL:
            self.assertEqual(pedigree_sign(four), sign(four).value)
            self.assertEqual(pedigree_sign(four=four.in_order((3, 1, 0, 2)).after([0, 2])), sign(four).value)
        self.assertEqual(pedigree_sign(FLAT.after([0, 1, 2])), 1)

    def test_a_hundred_turnings(self):
        hundred = Four((-100, 101, 10100, 10101))
        self.assertEqual(pedigree_sign(hundred), sign(hundred).value)
        more = Four((-101, 102, 10302, 10303))
        self.assert_error(TooMany("turnings", 100), pedigree_sign, more)
        self.assertEqual(sign(more).value, sign_near(more.bends))

    def test_letters(self):
        for start in ((-3, 5, 8, 8), (0, 0, 1, 1)):
            word = [at % 4 for at in range(201)]
            self.assertEqual(pedigree_sign(Four(walked(start, word[:200]))), sign_near(start))
            self.assert_error(TooMany("letters", 200), pedigree_sign, Four(walked(start, word)))
            self.assertEqual(sign(Four(walked(start, word))).value, sign_near(start))

    def test_errors(self):
        for value in ODD_VALUES + ((-3, 5, 8, 8), [0, 0, 1, 1], 0):
            self.assert_error(BadFour("four"), pedigree_sign, value)


if __name__ == "__main__":
    unittest.main()
