"""Fourth signs of fours, and what turning does to them."""

import itertools
import math
import time
import unittest

from bendsigns.check_fourthsigns import shows_fourth_sign
from bendsigns.errors import BadFour, BadNumber, Misfit, TooMany
from bendsigns.fans import fan
from bendsigns.fours import Four
from bendsigns.fourthsigns import FourthSign, fourth_sign, fourth_turn
from bendsigns.pedigrees import pedigree
from bendsigns.rims import rim_fours
from bendsigns.turned import turned
from tests.fourths import fours_with_fourth_signs, own_fourth_sign, pairs_of, what_is_missing
from tests.helps import ODD_VALUES, Case
from tests.walks import exchanged, lowered, sign_near, walked, words_up_to

ODD, FLAT = Four((-12, 25, 25, 28)), Four((0, 0, 1, 1))
COINS = Four((-3, 5, 8, 8))
BIG = 10 ** 59
FOURS = fours_with_fourth_signs(40)


def first_circle(four):
    """The first place with an odd bend, and the first circle of its fan with a coprime bend."""
    place = [at for at in range(4) if four.bends[at] % 2][0]
    for letters, at, bend in fan(four, place, (place + 1) % 4):
        if math.gcd(bend, four.bends[place]) == 1:
            return letters, place, at


def rising(start, many):
    """The four behind so many rising letters from a least one."""
    bends, letters = start, 0
    while letters < many:
        place = bends.index(min(bends)) if letters else bends.index(sorted(bends)[1])
        bends, letters = exchanged(bends, place), letters + 1
    return Four(bends)


class FourthSigns(Case):
    """fourth_sign."""

    def check(self, four, value):
        """The value, and the circle of the fan that was taken."""
        told = fourth_sign(four)
        self.assertIsInstance(told, FourthSign)
        self.assertEqual(told.parts, (value,) + first_circle(four))
        self.assert_true(shows_fourth_sign(four, told))

    def test_all_rims_and_orders(self):
        self.assertEqual({value for four, value in FOURS}, {1, -1})
        self.assertGreater(len(FOURS), 20)
        for four, value in FOURS:
            for order in itertools.permutations(range(4)):
                self.check(four.in_order(order), value)

    def test_which_fours_have_one(self):
        have = [four for four, value in FOURS]
        missing = set()
        for number in range(1, 41):
            for four in rim_fours(number):
                told = what_is_missing(four.bends)
                missing.add(told)
                if told is not None:
                    self.assert_error(Misfit(told), fourth_sign, four)
                    self.assert_error(Misfit(told), fourth_sign, four.in_order((2, 0, 3, 1)).after([1, 0, 2]))
                self.assertEqual(told is None, four in have)
        self.assertEqual(missing, {None, "kind", "sign"})

    def test_the_kind_ahead_of_the_sign(self):
        for bends in ((-3, 5, 8, 8), (-2, 3, 6, 7)):
            self.assertEqual(sign_near(bends), -1)
            self.assert_error(Misfit("kind"), fourth_sign, Four(bends))
        self.assertEqual(sign_near((-6, 10, 15, 19)), 1)
        self.assert_error(Misfit("kind"), fourth_sign, Four((-6, 10, 15, 19)))
        self.assert_error(Misfit("sign"), fourth_sign, Four((-15, 24, 41, 44)))

    def test_along_words(self):
        for four, value in FOURS[::4]:
            for word in words_up_to(3):
                self.check(Four(walked(four.bends, word)), value)

    def test_one_value_for_all_pairs(self):
        # Powers by prime pairs tell the same for each odd circle and each coprime one beside it.
        for four, value in FOURS[::3]:
            for word in words_up_to(2):
                bends = walked(four.bends, word)
                for place, other in pairs_of(bends):
                    if abs(bends[place]) < 10 ** 5:
                        self.assertEqual(own_fourth_sign(bends, place, other), value)

    def test_words_are_needed(self):
        lengths = set()
        for four, value in FOURS:
            for order in itertools.permutations(range(4)):
                lengths.add(len(fourth_sign(four.in_order(order)).letters))
        self.assertTrue({0, 1} <= lengths)

    def test_far_from_the_least_one(self):
        for start, value in (((-12, 25, 25, 28), -1), ((-7, 8, 56, 57), 1), ((0, 0, 1, 1), 1)):
            for many in (200, 201, 400):
                self.check(Four(walked(start, [at % 4 for at in range(many)])), value)
            slow = rising(start, 201)
            self.assertEqual(len(lowered(slow.bends)[1]), 201)
            self.check(slow, value)

    def test_flat(self):
        for order in itertools.permutations(range(4)):
            for word in words_up_to(3):
                self.check(FLAT.in_order(order).after(word), 1)
        self.assertEqual(fourth_sign(four=FLAT).parts, (1, (), 2, 0))

    def test_more_than_a_hundred_turnings(self):
        checked = 0
        for number in range(101, 140):
            bends = (-number, number + 1, number * number + number, number * number + number + 1)
            self.assert_error(TooMany("turnings", 100), pedigree, Four(bends))
            if what_is_missing(bends) is None:
                (value,) = {own_fourth_sign(bends, *pair) for pair in pairs_of(bends)}
                self.check(Four(bends), value)
                checked += 1
        self.assertGreater(checked, 2)

    def test_what_comes_of_turning(self):
        seen = set()
        for four, value in FOURS + ((FLAT, 1),):
            for word in words_up_to(1):
                now = Four(walked(four.bends, word))
                for place in range(4):
                    bend = now.bends[place]
                    if bend % 4 == 0:
                        self.assertEqual(fourth_sign(turned(now, place)).value, value * fourth_turn(bend))
                        seen.add(bend % 8)
        self.assertEqual(seen, {0, 4})

    def test_great_bends(self):
        began = time.process_time()
        number = 16 * 3 * 5 * 7 * 11 * 13 * 17 * 19 * 23 * 29 * 31 * 37 * 41 * 43 * 47
        for rim in (number, number - 8, 10 ** 29):
            square = rim * rim + rim
            # The lead of rim + 1 with -rim has the norm 1, so its symbol is 0.
            four = Four((-rim, rim + 1, square, square + 1))
            for order in itertools.permutations(range(4)):
                self.check(four.in_order(order), 1)
                self.check(turned(four.in_order(order), order.index(0)), fourth_turn(rim))
        self.assertLess(time.process_time() - began, 3)

    def test_errors(self):
        for value in ODD_VALUES + ((-12, 25, 25, 28), [0, 0, 1, 1], 0):
            self.assert_error(BadFour("four"), fourth_sign, value)


class FourthTurns(Case):
    """fourth_turn."""

    def test_all(self):
        for bend in range(-40, 41):
            for number in (bend, bend + 8 * BIG, bend - 8 * BIG):
                if bend % 8 in (0, 4):
                    self.assertEqual(fourth_turn(number), 1 if bend % 8 == 0 else -1)
                else:
                    self.assert_error(BadNumber("bend"), fourth_turn, number)
        self.assertEqual(fourth_turn(bend=4 * 10 ** 999), 1)

    def test_errors(self):
        for value in ODD_VALUES + ([], [4], (8,), 4.0, 8.0, "4", FLAT):
            self.assert_error(BadNumber("bend"), fourth_turn, value)


if __name__ == "__main__":
    unittest.main()
