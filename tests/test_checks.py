"""What an integer, a place, a word and a name are; rests, divisors, roots."""

import math
import unittest

from bendsigns.checks import (
    are_integers, common_divisor, is_integer, is_name, is_place, is_within, is_word, rest, whole_root,
)
from bendsigns.errors import BadNumber
from tests.helps import ODD_VALUES, Case

BIG = 10 ** 60 + 7


class Kinds(Case):
    """The checks that tell True or False of any value."""

    def test_is_integer(self):
        for value in (0, 1, -1, BIG, -BIG):
            self.assert_true(is_integer(value))
        for value in ODD_VALUES + ([], [1], ()):
            self.assert_false(is_integer(value))

    def test_is_within(self):
        for value, least, most, wanted in (
            (3, None, 3, True), (4, None, 3, False), (-BIG, None, 3, True), (3, 3, None, True), (2, 3, None, False),
            (BIG, 3, None, True), (0, 0, 0, True), (0, None, None, True), (BIG, None, None, True),
            (5, 6, 4, False), (-2, -2, -1, True), (-3, -2, -1, False), (BIG, BIG, BIG, True), (BIG + 1, BIG, BIG, False),
        ):
            self.assertIs(is_within(value, least, most), wanted, (value, least, most))
        for value in ODD_VALUES:
            self.assert_false(is_within(value, None, None))
            self.assert_false(is_within(value, 0, 1))

    def test_is_place(self):
        for value in (0, 1, 2, 3):
            self.assert_true(is_place(value))
        for value in ODD_VALUES + (-1, 4, BIG, []):
            self.assert_false(is_place(value))

    def test_are_integers(self):
        for value in ([], (), [0], (1, -2), [BIG] * 5, list(range(200))):
            self.assert_true(are_integers(value))
        for value in ODD_VALUES + (0, 7, [1, True], [1, None], (1, (2,)), [1, [2]], ["1"], {1: 2}, "12"):
            self.assert_false(are_integers(value))

    def test_is_word(self):
        for value in ([], (), [0, 0], (3, 2, 1, 0), [1] * 5000):
            self.assert_true(is_word(value))
        for value in ODD_VALUES + (0, [4], [-1], [0, False], [True], "0123", [[0]], [0, None]):
            self.assert_false(is_word(value))

    def test_is_name(self):
        for value in ("a", "z", "a1", "abcdefghijkl", "q99999999999", "z0"):
            self.assert_true(is_name(value))
        for value in ("", "1a", "A", "aB", "a_b", "a b", "abcdefghijklm", "\u00e4", "a\u00e4", "a\u0661", "a\n", " a",
                      "a-", b"a", ["a"], ("a",), 0, True, None, {"a": 1}):
            self.assert_false(is_name(value))


class Arithmetic(Case):
    """Rests, divisors and roots."""

    def test_rest(self):
        for number in (-17, -8, -3, -1, 0, 1, 7, 8, 23, BIG, -BIG):
            for by in (1, 2, 8, 24, BIG):
                told = rest(number, by)
                self.assertTrue(0 <= told < by and (number - told) % by == 0)
        self.assertEqual(rest(by=8, number=-3), 5)

    def test_rest_errors(self):
        for value in ODD_VALUES + ([], [1]):
            self.assert_error(BadNumber("number"), rest, value, 0)
            self.assert_error(BadNumber("by"), rest, 5, value)
        for by in (0, -1, -BIG):
            self.assert_error(BadNumber("by"), rest, 5, by)

    def test_common_divisor(self):
        for values, wanted in (
            ([], 0), ((), 0), ([0], 0), ((0, 0), 0), ([0, -7], 7), ([1, 0], 1), ((-12, 18), 6), ([5, 7], 1),
            ([2 * BIG, -3 * BIG], BIG), ([-1], 1), ([BIG], BIG),
        ):
            self.assertEqual(common_divisor(values), wanted)
        self.assertEqual(common_divisor(values=(4, 6)), 2)

    def test_common_divisor_errors(self):
        for value in ODD_VALUES + (0, 6, [6, "3"], [6, 3.0], [6, False], [[6]]):
            self.assert_error(BadNumber("values"), common_divisor, value)

    def test_whole_root(self):
        squares = {root * root: root for root in range(40)}
        for number in range(-40, 1600):
            self.assertEqual(whole_root(number), squares.get(number))
        for number in (BIG, 10 ** 500 + 3):
            self.assertEqual(whole_root(number * number), number)
            self.assertIsNone(whole_root(number * number + 1))
            self.assertIsNone(whole_root(number * number - 1))
            self.assertIsNone(whole_root(-number * number))
        self.assertEqual(whole_root(number=324), math.isqrt(324))

    def test_whole_root_errors(self):
        for value in ODD_VALUES + ([], [4]):
            self.assert_error(BadNumber("number"), whole_root, value)


if __name__ == "__main__":
    unittest.main()
