"""Verdicts: which integers come, and what bars the others."""

import math
import time
import unittest

from bendsigns.errors import BadFour, BadNumber, Flat, TooMany
from bendsigns.fours import Four
from bendsigns.kinds import kind_of
from bendsigns.rims import rim_fours
from bendsigns.verdicts import ByFourth, ByList, ByRest, BySign, Comes, barred, verdict
from tests.fourths import fourth_near, what_is_missing
from tests.helps import ODD_VALUES, Case, Looser
from tests.walks import all_circles, lowered, sign_near, walked

RESTS = {
    (1, 1): (0, 1, 4, 9, 12, 16), (1, 2): (0, 8, 9, 12, 17, 20), (5, 1): (0, 4, 12, 13, 16, 21),
    (5, 2): (0, 5, 8, 12, 20, 21), (3, 1): (3, 6, 7, 10, 15, 18, 19, 22), (3, 2): (2, 3, 6, 11, 14, 15, 18, 23),
}
NEEDS = {
    (1, 1): (1, 1, 1, 1), (1, 2): (1, 1, -1, -1), (5, 1): (1, -1, 1, -1), (5, 2): (1, -1, -1, 1),
    (3, 1): (0, 1, -1, -1), (3, 2): (0, 1, 1, 1),
}
COINS, ODD, FLAT, SEVEN = Four((-3, 5, 8, 8)), Four((-12, 25, 25, 28)), Four((0, 0, 1, 1)), Four((-7, 8, 56, 57))
NO_FOURS = ODD_VALUES + ((-3, 5, 8, 8), [0, 0, 1, 1], 0)
NO_NUMBERS = ODD_VALUES + (0, -1, -12, -10 ** 60, [12], [], 12.0, Looser())
FAMILIES = (1, 2, 3, 6)
FOURTHS = (1, 4, 9, 36)


def own_kind(bends):
    """The odd and the third of the kind of bends."""
    return min(bend % 8 for bend in bends if bend % 2), [bend % 3 for bend in bends if bend % 3][0]


def own_barring(bends):
    """What bars numbers in a gasket: the rests that are let, the barred families, the barred fourth families."""
    kind, sign = own_kind(bends), sign_near(lowered(bends)[0])
    families = [k for k, needed in zip(FAMILIES, NEEDS[kind]) if needed != sign]
    fourths = []
    if what_is_missing(lowered(bends)[0]) is None:
        value = fourth_near(lowered(bends)[0])
        fourths = [k for k in FOURTHS if value != (-1 if k % 9 == 0 and kind[1] == 2 else 1)]
    return RESTS[kind], families, fourths


def own_barred(number, barring):
    """The denial of what bars a number, by trying roots, None if nothing does."""
    rests, families, fourths = barring
    if number % 24 not in rests:
        return ByRest(number % 24)
    for k in families:
        root = math.isqrt(number // k)
        if k * root * root == number:
            return BySign(k, root)
    for k in fourths:
        root = math.isqrt(math.isqrt(number // k))
        if k * root ** 4 == number:
            return ByFourth(k, root)
    return None


class Verdicts(Case):
    """verdict."""

    def check(self, four):
        """All verdicts to 300, against an own list and an own table, and the words that occur."""
        listed, barring, words = all_circles(four.bends, 300), own_barring(four.bends), set()
        for number in range(1, 301):
            told = verdict(four, number)
            found = [(letters, place) for bend, letters, place in listed if bend == number]
            wanted = own_barred(number, barring)
            if found:
                self.assertIsNone(wanted)
                wanted = Comes(*found[0])
            elif wanted is None:
                wanted = ByList(len([bend for bend, letters, place in listed if bend <= number]))
            self.assertEqual(told, wanted, (four.bends, number))
            self.assertIs(type(told), type(wanted))
            self.assertIs(bool(told), bool(found))
            words.add(told.word)
        return words

    def test_all_numbers(self):
        words = set()
        for rim in range(1, 31):
            for four in rim_fours(rim):
                words |= self.check(four)
        self.assertEqual(words, {"comes", "byrest", "bysign", "byfourth", "bylist"})

    def test_orders_of_places(self):
        for bends in ((-1, 2, 2, 3), (-3, 5, 8, 8), (-12, 25, 25, 28), (-7, 8, 56, 57), (-30, 31, 930, 931)):
            for order in ((1, 0, 3, 2), (3, 2, 0, 1)):
                self.check(Four(bends).in_order(order))

    def test_every_four_of_a_gasket(self):
        for start in (COINS, ODD, SEVEN):
            for word in ((0,), (1, 2), (3, 1, 0, 2)):
                four = Four(walked(start.bends, word))
                for number in range(1, 301, 7):
                    self.assertEqual(verdict(four=four, number=number), verdict(start, number))

    def test_parts(self):
        self.assertEqual(verdict(COINS, 5).parts, ((), 1))
        self.assertEqual((verdict(COINS, 8).letters, verdict(COINS, 8).place), ((), 2))
        self.assertEqual((verdict(COINS, 12).letters, verdict(COINS, 12).place), ((2,), 2))
        self.assertEqual((verdict(COINS, 4).rest, verdict(COINS, 28).rest), (4, 4))
        self.assertEqual((verdict(COINS, 36).k, verdict(COINS, 36).root), (1, 6))
        self.assertEqual((verdict(ODD, 64).k, verdict(ODD, 64).root), (4, 2))
        self.assertEqual(verdict(COINS, 60).many, 24)
        self.assertEqual(verdict(Four((-1, 2, 2, 3)), 3).parts, ((), 3))

    def test_bounds(self):
        for number in (1, 300):
            self.assertIn(verdict(COINS, number).word, ("comes", "byrest", "bysign", "bylist"))
        # Only the rim is in the list: many is 1.
        four = [four for rim in range(40, 61) for four in rim_fours(rim) if own_barred(1, own_barring(four.bends)) is None][0]
        self.assertEqual(verdict(four, 1).parts, (1,))

    def test_errors(self):
        word = [at % 4 for at in range(201)]
        far, far_flat = Four(walked(COINS.bends, word)), Four(walked(FLAT.bends, word))
        for value in NO_FOURS:
            self.assert_error(BadFour("four"), verdict, value, None)
        for value in NO_NUMBERS + (301, 10 ** 60):
            for four in (COINS, FLAT, far, far_flat):
                self.assert_error(BadNumber("number"), verdict, four, value)
        for number in (1, 4, 12, 300):
            self.assert_error(TooMany("letters", 200), verdict, far, number)
            self.assert_error(TooMany("letters", 200), verdict, far_flat, number)
            self.assert_error(Flat(), verdict, FLAT, number)
            self.assert_error(Flat(), verdict, Four(walked(FLAT.bends, word[:200])), number)
            self.assertEqual(verdict(Four(walked(COINS.bends, word[:200])), number), verdict(COINS, number))

    def test_short_time(self):
        began = time.process_time()
        for bends in ((-1, 2, 2, 3), (-2, 3, 6, 7), (-3, 5, 8, 8)):
            for number in range(250, 301):
                verdict(Four(bends), number)
        self.assertLess(time.process_time() - began, 3)


class Barred(Case):
    """barred."""

    def test_all_small_numbers(self):
        for rim in range(1, 31):
            for four in rim_fours(rim):
                barring = own_barring(four.bends)
                for number in range(1, 400):
                    self.assertEqual(barred(four, number), own_barred(number, barring))

    def test_great_members_and_their_neighbours(self):
        began = time.process_time()
        fours = [Four(bends) for bends in ((-3, 5, 8, 8), (-2, 3, 6, 7), (-12, 25, 25, 28), (-7, 8, 56, 57),
                                           (-15, 24, 41, 44), (-6, 10, 15, 19), (-1, 2, 2, 3), (0, 0, 1, 1))]
        seen = set()
        for four in fours + [four for rim in range(13, 31) for four in rim_fours(rim)]:
            barring = own_barring(four.bends)
            for root in (6 ** 15, 10 ** 14 + 31, 6 * 10 ** 13, 35 * 10 ** 12 + 1, 5 ** 20, 4 * 7 ** 16, 3 * 7 ** 16):
                for number in [k * root ** 4 for k in FOURTHS] + [k * root ** 2 for k in FAMILIES]:
                    for each in (number, number - 24, number + 24, number - 1, number + 1):
                        told = barred(four, each)
                        self.assertEqual(told, own_barred(each, barring))
                        seen.add((told.word,) + told.parts[:-1] if told is not None else None)
        self.assertTrue({None, ("byrest",)} < seen)
        self.assertEqual({key for key in seen if key and key[0] == "bysign"}, {("bysign", k) for k in FAMILIES})
        self.assertEqual({key for key in seen if key and key[0] == "byfourth"}, {("byfourth", k) for k in FOURTHS})
        self.assertLess(time.process_time() - began, 10)

    def test_the_first_reason(self):
        # A square that the sign bars may leave a rest of the kind or none: a bad rest is told first.
        seen = set()
        for rim in range(1, 41):
            for four in rim_fours(rim):
                rests, families, fourths = own_barring(four.bends)
                for k in families:
                    for root in range(1, 13):
                        let = k * root * root % 24 in rests
                        self.assertEqual(barred(four, k * root * root).word, "bysign" if let else "byrest")
                        seen.add(let)
        self.assertEqual(seen, {True, False})
        self.assertEqual(barred(ODD, 16), ByFourth(1, 2))
        self.assertEqual(barred(COINS, 4), ByRest(4))

    def test_flat(self):
        self.assertEqual(kind_of(FLAT).rests, RESTS[1, 1])
        for number in range(1, 300):
            told = barred(four=FLAT, number=number)
            self.assertEqual(told, None if number % 24 in RESTS[1, 1] else ByRest(number % 24))

    def test_far_fours(self):
        for start in (COINS, ODD, FLAT, SEVEN):
            barring = own_barring(start.bends)
            for many in (200, 201, 400):
                four = Four(walked(start.bends, [at % 4 for at in range(many)]))
                for number in (1, 4, 12, 16, 24, 25, 36, 64, 81, 144, 324, 10 ** 56, 6 * 10 ** 58):
                    self.assertEqual(barred(four, number), own_barred(number, barring))

    def test_errors(self):
        for value in NO_FOURS:
            self.assert_error(BadFour("four"), barred, value, None)
        for value in NO_NUMBERS:
            self.assert_error(BadNumber("number"), barred, COINS, value)
            self.assert_error(BadNumber("number"), barred, FLAT, value)
            self.assert_error(BadNumber("number"), barred, Four((-2, 3, 6, 7)), value)


if __name__ == "__main__":
    unittest.main()
