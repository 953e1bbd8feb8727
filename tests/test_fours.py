"""Fours: what is one, its text, exchanges, words, orders."""

import itertools
import unittest

from bendsigns.errors import BadFour, BadText, BadWord, NoPlace, TooMany
from bendsigns.fours import Four
from tests.helps import ODD_VALUES, Case, Looser
from tests.walks import exchanged, fits, walked, words_up_to

COINS = (-3, 5, 8, 8)
STARTS = (COINS, (0, 0, 1, 1), (1, 0, 0, 1), (-1, 2, 2, 3), (-6, 10, 15, 19), (-12, 25, 25, 28))


class Making(Case):
    """What is a four, and which error comes first."""

    def test_all_small_ones(self):
        for bends in itertools.product(range(-4, 10), repeat=4):
            if fits(bends):
                four = Four(bends)
                self.assertEqual((four.bends, four.total), (bends, sum(bends)))
            else:
                self.assertRaises(BadFour, Four, bends)

    def test_lists_and_names(self):
        rows = list(COINS)
        four = Four(bends=rows)
        rows[0] = 99
        self.assertEqual(four.bends, COINS)
        self.assertIs(type(four.bends), tuple)
        self.assertEqual(Four([0, 0, 1, 1]).total, 2)

    def test_no_bends(self):
        for value in ODD_VALUES + ([], (), [1], [0, 0, 1], [0, 0, 1, 1, 0], [0, 0, True, 1], [0, 0, 1, 1.0],
                                   [0, 0, 1, "1"], 7, [False, 0, 1, 1], {0: 0, 1: 0, 2: 1, 3: 1}, "0011"):
            self.assert_error(BadFour("bends"), Four, value)

    def test_order_of_errors(self):
        for bends, part in (
            ([1, 1, 1, 1], "touch"), ([-3, 5, 8, 9], "touch"), ([2, 2, 2, 2], "touch"), ([-1, -1, -1, -1], "touch"),
            ([0, 0, 0, 0], "sum"), ([3, -5, -8, -8], "sum"), ([6, -10, -16, -16], "sum"), ([0, 0, -1, -1], "sum"),
            ([-6, 10, 16, 16], "divisor"), ([0, 0, 2, 2], "divisor"), ([0, 7, 7, 0], "divisor"),
        ):
            self.assert_error(BadFour(part), Four, bends)

    def test_equality(self):
        self.assert_true(Four(COINS) == Four(list(COINS)))
        self.assert_false(Four(COINS) == Four((5, -3, 8, 8)))
        for other in ODD_VALUES + (COINS, list(COINS), "-3 5 8 8", Looser()):
            self.assert_false(Four(COINS) == other)


class Texts(Case):
    """The text of a four, and reading it."""

    def test_text_and_back(self):
        for start in STARTS:
            for word in words_up_to(3):
                four = Four(walked(start, word))
                self.assertEqual(str(four), " ".join(str(bend) for bend in four.bends))
                self.assertEqual(Four.read(str(four)), four)
        self.assertEqual(Four.read(text="0 1 0 1").bends, (0, 1, 0, 1))
        self.assertIsInstance(Four.read("0 1 0 1"), Four)

    def test_wrong_items(self):
        for bad in ("", "+5", "05", "-0", "--5", "-", "5.0", "x", "5\n", "\t5", "1_0", "\u0665", "0x5", "00", "-05",
                    "1" * 61, "-" + "1" * 61, "1" * 5000, "None"):
            for index in range(4):
                items = "-3 5 8 8".split(" ")
                items[index] = bad
                self.assert_error(BadText(0, index), Four.read, " ".join(items))
            self.assert_error(BadText(0, 4), Four.read, "-3 5 8 8 " + bad)

    def test_the_first_wrong_item(self):
        self.assert_error(BadText(0, 1), Four.read, "-3 x y 8")
        self.assert_error(BadText(0, 0), Four.read, " -3 5 8 8")
        self.assert_error(BadText(0, 4), Four.read, "-3 5 8 8 ")
        self.assert_error(BadText(0, 1), Four.read, "-3  5 8 8")
        self.assert_error(BadText(0, 0), Four.read, "")
        self.assert_error(BadText(0, 2), Four.read, "-3 5 +8")

    def test_too_few_and_too_many(self):
        for count in (1, 2, 3):
            self.assert_error(BadText(0, count), Four.read, " ".join("-3 5 8 8".split(" ")[:count]))
        for more in (" 8", " 5 5", " 1 x"):
            self.assert_error(BadText(0, 4), Four.read, "-3 5 8 8" + more)
        self.assert_error(BadText(0, 4), Four.read, "1 1 1 1 1")

    def test_only_the_whole(self):
        for text in ("1 1 1 1", "-3 5 8 9", "0 0 0 0", "-6 10 16 16", "3 -5 -8 -8", "8 8 8 -3"):
            self.assert_error(BadText(0, 3), Four.read, text)

    def test_sixty_digits(self):
        great = 10 ** 59
        fits_still = Four((-great, great + 1, great * great + great, great * great + great + 1))
        self.assert_error(BadText(0, 2), Four.read, str(fits_still))
        self.assert_error(BadText(0, 3), Four.read, "0 0 1 " + "9" * 60)
        four = Four((0, 0, 1, 1))
        index = 0
        while max(len(str(bend)) for bend in four.exchanged(index % 4).bends) <= 60:
            four = four.exchanged(index % 4)
            index += 1
        self.assertEqual(max(len(str(bend)) for bend in four.bends), 60)
        self.assertEqual(Four.read(str(four)), four)
        self.assertRaises(BadText, Four.read, str(four.exchanged(index % 4)))

    def test_no_string(self):
        for value in ODD_VALUES + ([], ["-3", "5", "8", "8"], COINS, b"-3 5 8 8", Four(COINS)):
            if not isinstance(value, str):
                self.assert_error(BadText(0, 0), Four.read, value)


class Exchanges(Case):
    """Exchanges, words, orders."""

    def test_exchanged(self):
        for start in STARTS:
            for word in words_up_to(3):
                four = Four(walked(start, word))
                for place in range(4):
                    told = four.exchanged(place)
                    self.assertEqual(told.bends, exchanged(four.bends, place))
                    self.assertEqual(told.exchanged(place=place), four)

    def test_exchanged_errors(self):
        for value in ODD_VALUES + (-1, 4, [], [0], 10 ** 60):
            self.assert_error(NoPlace(value), Four(COINS).exchanged, value)

    def test_after(self):
        for start in STARTS:
            for word in words_up_to(3):
                four = Four(start)
                self.assertEqual(four.after(word).bends, walked(start, word))
                self.assertEqual(four.after(word=list(word)), four.after(word))
                self.assertEqual(four.bends, start)

    def test_long_words(self):
        four = Four(COINS)
        for word in ([0, 1, 2, 3] * 50, (2, 2) * 100, [1] * 200, [3], []):
            self.assertEqual(four.after(word).bends, walked(COINS, word))
        for word in ([0, 1, 2, 3] * 50 + [0], (2,) * 201, [0] * 5000):
            self.assert_error(TooMany("letters", 200), four.after, word)

    def test_far_from_the_least_one(self):
        four = Four(COINS)
        for turn in range(8):
            four = four.after([0, 1, 2, 3] * 50)
        self.assertGreater(len(str(four.bends[0])), 200)
        for turn in range(8):
            four = four.after([3, 2, 1, 0] * 50)
        self.assertEqual(four.bends, COINS)

    def test_after_errors(self):
        for value in ODD_VALUES + (0, 5, [4], [0, -1], "01", [0] * 300 + [4], [[0]]):
            self.assert_error(BadWord("word"), Four(COINS).after, value)

    def test_in_order(self):
        four = Four((-6, 10, 15, 19))
        for places in itertools.permutations(range(4)):
            self.assertEqual(four.in_order(places).bends, tuple(four.bends[place] for place in places))
            self.assertEqual(four.in_order(places=list(places)), four.in_order(places))

    def test_in_order_errors(self):
        for value in ODD_VALUES + ([], [0, 1, 2], [0, 1, 2, 2], [0, 1, 2, 4], [0, 1, 2, 3, 0], (3, 2, 1, False),
                                   "0123", [1, 2, 3, 4], 0, [0, 1, 2, 3] * 60):
            self.assert_error(BadWord("places"), Four(COINS).in_order, value)


if __name__ == "__main__":
    unittest.main()
