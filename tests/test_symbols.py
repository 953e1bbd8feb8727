"""Symbols by odd integers, and the steps that come down to them."""

import math
import time
import unittest

from bendsigns.errors import BadNumber
from bendsigns.papers import Paper
from bendsigns.symbols import Steps, steps_of, symbol
from tests.helps import ODD_VALUES, Case
from tests.walks import by_prime, own_symbol

PRIMES = [number for number in range(3, 120) if all(number % other for other in range(2, number))]
BIG = 10 ** 59 + 9


class Symbols(Case):
    """symbol against squares, products and laws."""

    def test_by_primes(self):
        for prime in PRIMES:
            for number in range(-2 * prime, 2 * prime + 1):
                self.assertEqual(symbol(number, prime), by_prime(number, prime))

    def test_by_products(self):
        for by in range(1, 400, 2):
            for number in range(-30, 60):
                self.assertEqual(symbol(number, by), own_symbol(number, by), (number, by))

    def test_by_one(self):
        for number in (0, 1, -1, 2, 7, BIG, -BIG):
            self.assertEqual(symbol(number, 1), 1)
            self.assertEqual(steps_of(number, 1).parts, (((1, 0),), 1))

    def test_multiples(self):
        for by in range(3, 60, 2):
            for number in range(-100, 100):
                self.assertEqual(symbol(number, by) == 0, math.gcd(number, by) > 1)
            self.assertEqual(symbol(0, by), 0)

    def test_great_numbers(self):
        # 10 ** 59 + 9 and these powers of 2 less 1 are told by their rests alone.
        prime = 2 ** 127 - 1
        for root in (2, 3, 10 ** 37 + 1, BIG):
            self.assertEqual(symbol(root * root, prime), 1)
            self.assertEqual(symbol(-root * root, prime), -1)
        for number in (BIG, -BIG, 3 ** 100, 7 ** 60 - 2, 10 ** 59 - 1):
            power = pow(number, (prime - 1) // 2, prime)
            self.assertEqual(symbol(number, prime), 1 if power == 1 else -1)
            for by in (3 ** 80, 5 ** 70 * 7, 3 * 5 * 7 * 11 * 13):
                self.assertEqual(symbol(number, by), own_symbol(number, by))
        self.assertEqual(symbol(number=BIG * 3, by=BIG), 0)

    def test_products(self):
        for one in (-7, -2, 3, 10 ** 59 + 1):
            for other in (5, -11, 2, 10 ** 58 + 3):
                for by in (9, 35, 101, BIG):
                    self.assertEqual(symbol(one * other, by), symbol(one, by) * symbol(other, by))

    def test_errors(self):
        for call in (symbol, steps_of):
            for value in ODD_VALUES + ([], [5]):
                self.assert_error(BadNumber("number"), call, value, None)
            for value in ODD_VALUES + (0, 2, 4, -1, -3, -5, 10 ** 59, [5], []):
                self.assert_error(BadNumber("by"), call, 3, value)

    def test_short_time(self):
        began = time.process_time()
        one, other = 1, 1
        while len(str(one)) < 60:
            one, other = 2 * one + other, one
        for turn in range(50):
            steps_of(2 * other, one if one % 2 else one + other)
            symbol(10 ** 59 + turn, BIG)
        self.assertLess(time.process_time() - began, 2)


class Rows(Case):
    """The rows of steps_of."""

    def own_steps(self, number, by):
        """The rows on the way down, and the symbol."""
        rows = [(by, number % by)]
        while rows[-1][1]:
            odd, over = rows[-1]
            while over % 2 == 0:
                over //= 2
            rows.append((over, odd % over))
        return tuple(rows), own_symbol(number, by)

    def test_against_an_own_way_down(self):
        for by in range(1, 250, 2):
            for number in range(-40, 250, 3):
                told = steps_of(number, by)
                self.assertEqual(told.parts, self.own_steps(number, by))
                self.assertIsInstance(told, Steps)
                self.assertIs(type(told.value), int)
                self.assertEqual((told.rows, told.value), told.parts)
        self.assertEqual(steps_of(number=8, by=5).rows, ((5, 3), (3, 2), (1, 0)))

    def test_great_numbers(self):
        told = steps_of(BIG - 1, BIG)
        self.assertEqual(told.rows[0], (BIG, BIG - 1))
        self.assertEqual(told.rows[-1], (1, 0))
        for (odd, over), (left, then) in zip(told.rows, told.rows[1:]):
            self.assertTrue(over % left == 0 and left % 2 == 1 and then == odd % left)
            self.assertEqual((over // left).bit_count(), 1)

    def test_a_common_divisor(self):
        told = steps_of(15 * 10 ** 40, 3 ** 20)
        self.assertEqual((told.value, told.rows[-1][1]), (0, 0))
        self.assertEqual(told.rows[-1][0], 3)
        self.assertTrue(bool(told) and isinstance(told, Paper))


if __name__ == "__main__":
    unittest.main()
