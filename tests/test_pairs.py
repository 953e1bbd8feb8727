"""Pairs: arithmetic, kin, division, common divisors, odd parts, texts."""

import itertools
import time
import unittest
from fractions import Fraction

from bendsigns.errors import BadNumber, BadPair, BadText
from bendsigns.pairs import Pair
from tests import gauss
from tests.helps import ODD_VALUES, Case, Looser, look_alike

SMALL = gauss.all_up_to(4)
BIG = 10 ** 59 + 7
GREAT = ((BIG, -BIG + 2), (-3 * BIG, 5 * BIG + 1), (0, BIG), (-BIG, 0), (10 ** 59, 10 ** 59 - 1), (2 ** 190, 2 ** 188))
NO_PAIRS = ODD_VALUES + (0, 7, (1, 2), [1, 2], 1 + 2j, "1 2", Fraction(1), Looser(), look_alike("Pair", one=1, other=2, norm=5))


def plain(pair):
    """The two integers of a Pair, and that its norm is right."""
    assert type(pair) is Pair and pair.norm == gauss.norm((pair.one, pair.other))
    return pair.one, pair.other


class Making(Case):
    """What is a pair, what it keeps, equality."""

    def test_attributes(self):
        for one, other in SMALL + list(GREAT):
            pair = Pair(one, other)
            self.assertEqual((pair.one, pair.other, pair.norm), (one, other, one * one + other * other))
            self.assertEqual(plain(Pair(other=other, one=one)), (one, other))

    def test_errors(self):
        for value in ODD_VALUES + ([], [1], Fraction(1), 1j):
            self.assert_error(BadNumber("one"), Pair, value, None)
            self.assert_error(BadNumber("other"), Pair, 0, value)

    def test_equality(self):
        for p, q in itertools.product(SMALL[::5], SMALL[::3]):
            self.assertIs(Pair(*p) == Pair(*q), p == q)
            self.assertIs(Pair(*p) != Pair(*q), p != q)
        for other in NO_PAIRS:
            self.assert_false(Pair(1, 2) == other)
            self.assert_true(Pair(1, 2) != other)
        self.assert_false(Pair(5, 0) == 5)


class Arithmetic(Case):
    """Sums, differences, products, negatives, flipped, times i."""

    def check(self, p, q):
        """All of them for two pairs."""
        one, other = Pair(*p), Pair(*q)
        self.assertEqual(plain(one + other), (p[0] + q[0], p[1] + q[1]))
        self.assertEqual(plain(one - other), (p[0] - q[0], p[1] - q[1]))
        self.assertEqual(plain(one * other), gauss.times(p, q))
        self.assertEqual((one * other).norm, one.norm * other.norm)
        self.assertEqual((plain(-one), plain(one.flipped())), ((-p[0], -p[1]), (p[0], -p[1])))
        self.assertEqual((plain(one), plain(other)), (p, q))

    def test_small_and_great(self):
        for p, q in itertools.product(SMALL, SMALL):
            self.check(p, q)
        for p, q in itertools.product(GREAT + ((0, 0), (1, -1)), GREAT + ((0, -1), (3, 2))):
            self.check(p, q)
        self.assertEqual(Pair(0, 1) * Pair(0, 1), Pair(-1, 0))

    def test_times_i(self):
        for p in SMALL + list(GREAT):
            for power in list(range(-9, 10)) + [BIG, -BIG, 4 * BIG, 4 * BIG + 1, 2 - 4 * BIG, -4 * BIG - 1]:
                told = Pair(*p).times_i(power)
                self.assertEqual(plain(told), gauss.times(p, gauss.UNITS[power % 4]))
        self.assertEqual(Pair(2, 3).times_i(power=-1), Pair(3, -2))
        for value in ODD_VALUES + ([], [1], Fraction(1)):
            self.assert_error(BadNumber("power"), Pair(2, 3).times_i, value)

    def test_no_pairs(self):
        for value in (1, None, (1, 2), "1 2", True):
            for call in (lambda: Pair(1, 2) + value, lambda: Pair(1, 2) - value, lambda: Pair(1, 2) * value,
                         lambda: value + Pair(1, 2), lambda: value * Pair(1, 2)):
                self.assertRaises((TypeError, BadPair), call)


class Primary(Case):
    """Primary pairs, primary kin, odd parts."""

    def test_is_primary(self):
        for one, other in gauss.all_up_to(9):
            self.assertIs(Pair(one, other).is_primary(), other % 2 == 0 and (one + other) % 4 == 1)
        self.assert_true(Pair(4 * BIG + 3, -2).is_primary())

    def test_primary_kin(self):
        for p in gauss.all_up_to(7) + list(GREAT):
            pair = Pair(*p)
            if pair.norm % 2 == 0:
                self.assert_error(BadPair("odd"), pair.primary)
                continue
            power, kin = pair.primary()
            self.assertIs(type(pair.primary()), tuple)
            self.assertTrue(0 <= power <= 3 and type(power) is int)
            self.assertEqual(gauss.times(plain(kin), gauss.UNITS[power]), p)
            self.assert_true(kin.is_primary())
            self.assertEqual([turn for turn in range(4) if pair.times_i(turn).is_primary()], [-power % 4])

    def test_products_and_flipped(self):
        primary = [Pair(*p) for p in gauss.all_up_to(6) if Pair(*p).is_primary()]
        for one, other in itertools.product(primary, primary):
            self.assert_true((one * other).is_primary() and one.flipped().is_primary())

    def test_odd_part(self):
        for p in gauss.all_up_to(9) + list(GREAT):
            pair = Pair(*p)
            if p == (0, 0):
                self.assert_error(BadPair("zero"), pair.odd_part)
                continue
            times, odd = pair.odd_part()
            self.assertIs(type(pair.odd_part()), tuple)
            self.assertEqual(odd.norm % 2, 1)
            self.assertEqual(gauss.times(gauss.power((1, 1), times), plain(odd)), p)
        for times in range(40):
            self.assertEqual(Pair(*gauss.times(gauss.power((1, 1), times), (3, -2))).odd_part(), (times, Pair(3, -2)))


class Divided(Case):
    """Quotients and rests."""

    def check(self, p, q):
        """The quotient has the nearest integers, the lower one of two that are as near."""
        told = Pair(*p).divided(Pair(*q))
        self.assertIs(type(told), tuple)
        quotient, left = told
        for part, number in zip(gauss.over(p, q), plain(quotient)):
            near = [part.numerator // part.denominator + more for more in (-1, 0, 1, 2)]
            self.assertEqual(number, min(near, key=lambda each: (abs(part - each), each)))
        self.assertEqual(plain(left), gauss.less(p, gauss.times(q, plain(quotient))))
        self.assertLessEqual(2 * left.norm, gauss.norm(q))

    def test_small(self):
        for p, q in itertools.product(gauss.all_up_to(5), gauss.all_up_to(3)):
            if q != (0, 0):
                self.check(p, q)

    def test_halves(self):
        for one, other in gauss.all_up_to(7):
            quotient, left = Pair(one, other).divided(Pair(2, 0))
            self.assertEqual(plain(quotient), ((one - 1 + (one + 1) % 2) // 2, (other - 1 + (other + 1) % 2) // 2))
            self.check((one, other), (2, 0))
            self.check((one, other), (1, 1))
            self.check((one, other), (0, -2))
        self.check((BIG, -BIG), (2, 0))
        self.check((BIG, -BIG), (-2, 0))

    def test_great(self):
        for p in GREAT + tuple(SMALL[::11]):
            for q in GREAT[:4] + ((7, -4), (1, 1), (0, 1), (-1, 0), (2, 0)):
                self.check(p, q)

    def test_units(self):
        for p in SMALL:
            for unit in gauss.UNITS:
                quotient, left = Pair(*p).divided(by=Pair(*unit))
                self.assertEqual((plain(left), gauss.times(plain(quotient), unit)), ((0, 0), p))

    def test_errors(self):
        for value in NO_PAIRS + (Pair(0, 0),):
            self.assert_error(BadPair("by"), Pair(7, 2).divided, value)
            self.assert_error(BadPair("by"), Pair(0, 0).divided, value)


class Common(Case):
    """Common divisors."""

    def check(self, p, q, told):
        """A common divisor that stands upright, divided by each one."""
        self.assertTrue(gauss.divides(told, p) and gauss.divides(told, q))
        self.assertTrue(told[0] > 0 and told[1] >= 0 or p == q == told == (0, 0))

    def test_small(self):
        wanted = {}
        for p, q in itertools.product(gauss.all_up_to(3), gauss.all_up_to(3)):
            told = plain(Pair(*p).common(Pair(*q)))
            self.check(p, q, told)
            for each in SMALL:
                if gauss.divides(each, p) and gauss.divides(each, q) and (p, q) != ((0, 0), (0, 0)):
                    self.assertTrue(gauss.divides(each, told))
            self.assertEqual(wanted.setdefault((q, p), told), told)
            wanted[p, q] = told
        self.assertEqual(plain(Pair(0, 0).common(other=Pair(0, 0))), (0, 0))

    def test_upright(self):
        for p in SMALL:
            for told in (Pair(*p).common(Pair(0, 0)), Pair(0, 0).common(Pair(*p)), Pair(*p).common(Pair(*p).times_i(3))):
                self.check(p, p, plain(told))
                self.assertEqual(told.norm, gauss.norm(p))
        self.assertEqual(Pair(0, -5).common(Pair(0, 0)), Pair(5, 0))
        self.assertEqual(Pair(2, -3).common(Pair(0, 0)), Pair(3, 2))
        self.assertEqual(Pair(-2, -3).common(Pair(0, 0)), Pair(2, 3))

    def test_great(self):
        for p, q in itertools.combinations(GREAT, 2):
            for factor in ((1, 1), (BIG, 4), (3, -2), (0, -7)):
                one, other = Pair(*gauss.times(p, factor)), Pair(*gauss.times(q, factor))
                told = plain(one.common(other))
                self.check(plain(one), plain(other), told)
                self.assertTrue(gauss.divides(factor, told))
                self.assertEqual(other.common(one), Pair(*told))

    def test_errors(self):
        for value in NO_PAIRS:
            self.assert_error(BadPair("other"), Pair(7, 2).common, value)
            self.assert_error(BadPair("other"), Pair(0, 0).common, value)

    def test_short_time(self):
        began = time.process_time()
        one, other = Pair(1, 0), Pair(0, 0)
        while len(str(one.one)) < 60:
            one, other = one * Pair(2, 1) + other, one
        for turn in range(20):
            one.common(other)
            one.divided(other)
            one.odd_part()
        self.assertLess(time.process_time() - began, 3)


class Texts(Case):
    """The text of a pair, and reading it."""

    def test_text_and_back(self):
        for p in SMALL + [(10 ** 60 - 1, 1 - 10 ** 60)] + list(GREAT):
            self.assertEqual(str(Pair(*p)), f"{p[0]} {p[1]}")
            self.assertEqual(Pair.read(str(Pair(*p))), Pair(*p))
            self.assertIsInstance(Pair.read(text=str(Pair(*p))), Pair)
        self.assertEqual(str(Pair(10 ** 300, -1)), "1" + "0" * 300 + " -1")

    def test_wrong_items(self):
        for bad in ("", "+5", "05", "-0", "--5", "-", "5.0", "x", "5\n", "\t5", "1_0", "\u0665", "i", "1" * 61,
                    "-" + "1" * 61, "1" * 5000):
            self.assert_error(BadText(0, 0), Pair.read, bad)
            self.assert_error(BadText(0, 0), Pair.read, bad + " 4")
            self.assert_error(BadText(0, 1), Pair.read, "4 " + bad)
            self.assert_error(BadText(0, 2), Pair.read, "4 -5 " + bad)
        self.assert_error(BadText(0, 0), Pair.read, "x y")
        self.assertEqual(Pair.read("1" * 60 + " -" + "2" * 60), Pair(int("1" * 60), -int("2" * 60)))

    def test_missing_and_too_many(self):
        self.assert_error(BadText(0, 1), Pair.read, "4")
        self.assert_error(BadText(0, 2), Pair.read, "4 5 6")
        self.assert_error(BadText(0, 2), Pair.read, "4 5 5")
        self.assert_error(BadText(0, 2), Pair.read, "4 5 ")
        self.assert_error(BadText(0, 0), Pair.read, " 4 5")
        self.assert_error(BadText(0, 1), Pair.read, "4  5")
        self.assert_error(BadText(0, 0), Pair.read, "")

    def test_no_strings(self):
        for value in NO_PAIRS + (Pair(1, 2),):
            if not isinstance(value, str):
                self.assert_error(BadText(0, 0), Pair.read, value)


if __name__ == "__main__":
    unittest.main()
