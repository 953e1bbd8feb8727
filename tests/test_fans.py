"""Fans of two circles, and the first circle between that is coprime to both."""

import itertools
import math
import time
import unittest

from bendsigns.errors import BadFour, Flat, NoPlace, Twice
from bendsigns.fans import Between, between, fan
from bendsigns.fours import Four
from bendsigns.rims import rim_fours
from tests.helps import ODD_VALUES, Case
from tests.walks import walked

STARTS = ((-3, 5, 8, 8), (0, 0, 1, 1), (1, 0, 1, 0), (-1, 2, 2, 3), (-6, 10, 15, 19), (28, 25, 25, -12))
PAIRS = tuple(itertools.permutations(range(4), 2))
FLAT, SIX = Four((0, 0, 1, 1)), Four((-6, 10, 15, 19))


def first(four, place, other, many):
    """So many circles of a fan."""
    return list(itertools.islice(fan(four, place, other), many))


def own_fan(bends, place, other, many):
    """So many circles of a fan, by exchanges at the lesser and the greater other place by turns."""
    low, high = [at for at in range(4) if at not in (place, other)]
    found, word = [((), low, bends[low]), ((), high, bends[high])], ()
    while len(found) < many:
        word += ((low, high)[len(word) % 2],)
        found.append((word, word[-1], walked(bends, word)[word[-1]]))
    return found[:many]


def chained_four(divisors):
    """A four with the bends -n and n + 1 at the first places, n being a product of primes."""
    number = math.prod(divisors)
    square = number * number + number
    return Four((-number, number + 1, square, square + 1))


class Fans(Case):
    """fan itself."""

    def test_against_own_exchanges(self):
        for start in STARTS:
            for word in ((), (0,), (3, 1), (2, 0, 1)):
                four = Four(walked(start, word))
                for place, other in PAIRS:
                    told = first(four, place, other, 12)
                    self.assertEqual(told, own_fan(four.bends, place, other, 12))
                    self.assertEqual(told, first(four, other, place, 12))
                    self.assertTrue(all(type(row) is tuple and type(row[0]) is tuple for row in told))

    def test_all_touch_both(self):
        for letters, at, bend in first(SIX, 3, 1, 30):
            there = SIX.after(letters).bends
            self.assertEqual((there[3], there[1], there[at]), (19, 10, bend))

    def test_one_by_one(self):
        rows = fan(four=FLAT, place=2, other=3)
        self.assertEqual([next(rows), next(rows), next(rows)], [((), 0, 0), ((), 1, 0), ((0,), 0, 4)])
        rows, others = fan(SIX, 0, 1), fan(SIX, 0, 1)
        next(rows)
        self.assertEqual((next(others), next(rows)), (((), 2, 15), ((), 3, 19)))

    def test_many(self):
        began = time.process_time()
        for index, (letters, at, bend) in enumerate(itertools.islice(fan(SIX, 0, 1), 3000)):
            pass
        self.assertEqual((index, len(letters), at), (2999, 2998, 3))
        self.assertEqual(letters, (2, 3) * 1499)
        # The bends are those of a parabola: their second differences are twice the sum of both.
        self.assertEqual(bend - 2 * walked(SIX.bends, letters[:-1])[2] + walked(SIX.bends, letters[:-2])[3], 8)
        self.assertLess(time.process_time() - began, 5)

    def raised(self, *parts):
        """Ask a fan for its first circle."""
        return next(fan(*parts))

    def test_errors(self):
        self.errors_of(self.raised)

    def errors_of(self, call):
        """The errors of four and places, in their order."""
        for value in ODD_VALUES + ((-3, 5, 8, 8), [0, 0, 1, 1], 0):
            self.assert_error(BadFour("four"), call, value, None, None)
        for value in ODD_VALUES + (-1, 4, 10 ** 60, [0], (1,)):
            self.assert_error(NoPlace(value), call, SIX, value, 9)
            self.assert_error(NoPlace(value), call, SIX, 0, value)
        for place in range(4):
            self.assert_error(Twice(place), call, SIX, place, place)
            self.assert_error(Twice(place), call, FLAT, place, place)


class Betweens(Case):
    """between: the first one that is coprime to both."""

    def own_between(self, bends, place, other):
        """The word and the place of the first coprime circle."""
        many = 4
        while True:
            many *= 2
            for letters, at, bend in own_fan(bends, place, other, many):
                if math.gcd(bend, bends[place]) == 1 and math.gcd(bend, bends[other]) == 1:
                    return letters, at

    def test_small_rims(self):
        for number in range(1, 31):
            for four in rim_fours(number):
                for bends in (four.bends, walked(four.bends, (2, 1))[::-1]):
                    for place, other in PAIRS:
                        told = between(Four(bends), place, other)
                        self.assertIsInstance(told, Between)
                        self.assertEqual((told.letters, told.at), self.own_between(bends, place, other))
        self.assertEqual(between(four=SIX, place=1, other=2), Between((), 3))

    def test_many_common_divisors(self):
        began = time.process_time()
        primes = [number for number in range(2, 150) if all(number % other for other in range(2, number))]
        for divisors in (primes[:20], primes[1:25], primes[:35]):
            four = chained_four(divisors)
            for place, other in PAIRS:
                told = between(four, place, other)
                there = four.after(told.letters).bends
                self.assertEqual(math.gcd(there[told.at], there[place] * there[other]), 1)
                self.assertEqual(told.letters[-1:] or (told.at,), (told.at,))
                for letters, at, bend in first(four, place, other, 60):
                    if (letters, at) == told.parts:
                        break
                    self.assertGreater(math.gcd(bend, there[place] * there[other]), 1)
        self.assertLess(time.process_time() - began, 5)

    def test_flat(self):
        self.assertEqual(between(FLAT, 2, 3).parts, ((), 0))
        for bends in ((0, 0, 1, 1), (4, 0, 1, 1)):
            for place, other in PAIRS:
                if 0 in (bends[place], bends[other]):
                    self.assert_error(Flat(), between, Four(bends), place, other)
                else:
                    self.assertEqual(between(Four(bends), place, other).parts, self.own_between(bends, place, other))

    def test_errors(self):
        Fans.errors_of(self, between)


if __name__ == "__main__":
    unittest.main()
