"""Kinds of fours, their rests and their texts."""

import itertools
import unittest

from bendsigns.errors import BadFour, BadNumber, BadText
from bendsigns.fours import Four
from bendsigns.kinds import Kind, kind_of
from bendsigns.rims import rim_fours
from tests.helps import ODD_VALUES, Case, Looser, look_alike
from tests.walks import fours_near, words_up_to

ALL = tuple(itertools.product((1, 3, 5), (1, 2)))


def own_rests(odd, third):
    """The rests by 24 that fit by 8 and by 3: odd ones and even ones that stand beside them, and third or 0."""
    eighths = {1: (1, 0, 4), 5: (5, 0, 4), 3: (3, 7, 2, 6)}[odd]
    return tuple(number for number in range(24) if number % 8 in eighths and number % 3 in (0, third))


def own_kind(bends):
    """The odd and the third of bends, by looking at all that they leave."""
    eighths = {bend % 8 for bend in bends if bend % 2}
    thirds = {bend % 3 for bend in bends} - {0}
    odd = {frozenset({1}): 1, frozenset({5}): 5, frozenset({3, 7}): 3}[frozenset(eighths)]
    (third,) = thirds
    return odd, third


class Kinds(Case):
    """Kind itself."""

    def test_all_six(self):
        for odd, third in ALL:
            kind = Kind(odd, third)
            self.assertEqual((kind.odd, kind.third, kind.rests), (odd, third, own_rests(odd, third)))
            self.assertIs(type(kind.rests), tuple)
            self.assertEqual(Kind(third=third, odd=odd), kind)

    def test_equality(self):
        for one, other in itertools.product(ALL, ALL):
            self.assertIs(Kind(*one) == Kind(*other), one == other)
            self.assertIs(Kind(*one) != Kind(*other), one != other)
        for other in ODD_VALUES + ((5, 2), [5, 2], "5 2", Looser(), look_alike("Kind", odd=5, third=2)):
            self.assert_false(Kind(5, 2) == other)

    def test_errors(self):
        for value in ODD_VALUES + (1.0, 5.0, 0, 2, 4, 6, 7, -1, -3, 9, 10 ** 60 + 1, [1], []):
            self.assert_error(BadNumber("odd"), Kind, value, None)
        for value in ODD_VALUES + (1.0, 2.0, 0, 3, -1, 10 ** 60, [1], []):
            self.assert_error(BadNumber("third"), Kind, 1, value)


class Texts(Case):
    """The text of a kind, and reading it."""

    def test_text_and_back(self):
        for odd, third in ALL:
            self.assertEqual(str(Kind(odd, third)), f"{odd} {third}")
            self.assertEqual(Kind.read(f"{odd} {third}"), Kind(odd, third))
            self.assertIsInstance(Kind.read(text=f"{odd} {third}"), Kind)

    def test_wrong_items(self):
        for bad in ("", "0", "4", "7", "-1", "+1", "01", "1.0", "x", "1\n", "\t1", "\u0661", "15", "135", "11", "1" * 70):
            self.assert_error(BadText(0, 0), Kind.read, bad)
            self.assert_error(BadText(0, 0), Kind.read, bad + " 1")
            self.assert_error(BadText(0, 1), Kind.read, "1 " + bad)
            self.assert_error(BadText(0, 2), Kind.read, "5 2 " + bad)
        self.assert_error(BadText(0, 0), Kind.read, "2 1")
        self.assert_error(BadText(0, 1), Kind.read, "1 3")
        self.assert_error(BadText(0, 1), Kind.read, "1 5")

    def test_missing_and_too_many(self):
        self.assert_error(BadText(0, 1), Kind.read, "5")
        self.assert_error(BadText(0, 1), Kind.read, "5 ")
        self.assert_error(BadText(0, 1), Kind.read, "5  2")
        self.assert_error(BadText(0, 0), Kind.read, " 5 2")
        self.assert_error(BadText(0, 2), Kind.read, "5 2 2")
        self.assert_error(BadText(0, 2), Kind.read, "5 2 ")

    def test_no_strings(self):
        for value in ODD_VALUES + (5, [5, 2], (5, 2), ["5", "2"], b"5 2", Kind(5, 2)):
            if not isinstance(value, str):
                self.assert_error(BadText(0, 0), Kind.read, value)


class KindsOfFours(Case):
    """kind_of."""

    def test_all_small_rims(self):
        seen = set()
        fours = [Four((0, 0, 1, 1))] + [four for number in range(1, 41) for four in rim_fours(number)]
        for four in fours:
            kind = kind_of(four)
            self.assertIsInstance(kind, Kind)
            self.assertEqual((kind.odd, kind.third), own_kind(four.bends))
            seen.add((kind.odd, kind.third))
            for order in itertools.permutations(range(4)):
                self.assertEqual(kind_of(four=four.in_order(order)), kind)
            for word in words_up_to(3):
                self.assertEqual(kind_of(four.after(word)), kind)
        self.assertEqual(seen, set(ALL))

    def test_rests_are_just_those_that_come(self):
        for start in ((0, 0, 1, 1), (-3, 5, 8, 8), (-2, 3, 6, 7), (-1, 2, 2, 3), (-12, 17, 41, 44), (-7, 8, 56, 57)):
            come = {bend % 24 for bends in fours_near(start, 400) for bend in bends}
            self.assertEqual(kind_of(Four(start)).rests, tuple(sorted(come)))

    def test_far_from_the_least_one(self):
        four = Four((-3, 5, 8, 8)).after([at % 4 for at in range(200)]).after([at % 4 for at in range(200)])
        self.assertEqual(kind_of(four), Kind(5, 2))

    def test_errors(self):
        for value in ODD_VALUES + ((-3, 5, 8, 8), [0, 0, 1, 1], 0, Kind(5, 2)):
            self.assert_error(BadFour("four"), kind_of, value)


if __name__ == "__main__":
    unittest.main()
