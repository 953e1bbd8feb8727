"""Local signs of forms, and signs by the rim."""

import itertools
import math
import time
import unittest

from bendsigns.errors import BadForm, BadFour, TooMany
from bendsigns.forms import Form
from bendsigns.fours import Four
from bendsigns.localsigns import local_signs, sign_by_rim
from bendsigns.products import contrary, gasket_product, idle_form, product
from bendsigns.rims import rim_fours
from bendsigns.signs import sign
from tests.helps import ODD_VALUES, Case, Looser, look_alike
from tests.products import least_table
from tests.walks import by_prime, sign_near, walked

TABLE = least_table(60)
NO_FORMS = ODD_VALUES + ((2, 1, 5), [2, 1, 5], "2 1 5", 5, Four((0, 0, 1, 1)), Looser(),
                         look_alike("Form", numbers=(2, 1, 5), side=3))
NO_FOURS = ODD_VALUES + ((-3, 5, 8, 8), [0, 0, 1, 1], 0, Form(2, 1, 5))
COINS, FLAT = Four((-3, 5, 8, 8)), Four((0, 0, 1, 1))
CHANGES = ((1, 3, 0, 1), (2, 5, 1, 3), (0, -1, 1, 0), (7, -3, -2, 1), (1, 0, -4, 1), (0, 1, 1, 0))


def odd_primes(number):
    """The odd primes of a number, ascending."""
    return [p for p in range(3, number + 1, 2) if number % p == 0 and all(p % q for q in range(3, p, 2))]


def own_local_signs(form):
    """The local signs, as any value that tells one has it."""
    first, half, last = form.numbers
    worths = [first * x * x + 2 * half * x * y + last * y * y
              for x in range(5) for y in range(-5, 6) if math.gcd(x, y) == 1]
    told = []
    if form.side % 4 == 0:
        (left,) = {worth % 8 for worth in worths if worth % 2}
        told.append((8, {1: 1, 5: -1}[left]))
    for prime in odd_primes(form.side):
        (sign_by,) = {by_prime(worth, prime) for worth in worths if worth % prime}
        told.append((prime, sign_by))
    return tuple(told)


class LocalSigns(Case):
    """local_signs."""

    def test_all_least_forms(self):
        for side in range(1, 61):
            for numbers in TABLE[side]:
                form = Form(*numbers)
                wanted = own_local_signs(form)
                self.assertEqual(local_signs(form=form), wanted)
                self.assertIs(type(local_signs(form)), tuple)
                for change in CHANGES:
                    self.assertEqual(local_signs(form.changed(*change)), wanted)

    def test_a_first_number_that_is_divided(self):
        for numbers, wanted in (
            ((9, 0, 16), ((8, 1), (3, 1))), ((16, 0, 9), ((8, 1), (3, 1))), ((4, 2, 37), ((8, -1), (3, 1))),
            ((37, 2, 4), ((8, -1), (3, 1))), ((25, 0, 1), ((5, 1),)), ((1, 0, 225), ((3, 1), (5, 1))),
            ((9, 0, 25), ((3, 1), (5, 1))), ((2, 1, 5), ((3, -1),)), ((5, 1, 2), ((3, -1),)),
            ((18, 9, 17), ((3, -1), (5, -1))),
        ):
            self.assertEqual(local_signs(Form(*numbers)), wanted, numbers)

    def test_products_and_contraries(self):
        for side in (12, 21, 30, 40, 45, 60):
            for one, other in itertools.product([Form(*numbers) for numbers in TABLE[side]], repeat=2):
                wanted = tuple((by, mine * theirs) for (by, mine), (_, theirs)
                               in zip(local_signs(one), local_signs(other)))
                self.assertEqual(local_signs(product(one, other)), wanted)
                self.assertEqual(local_signs(contrary(one)), local_signs(one))

    def test_every_row_comes_equally_often(self):
        for side in range(1, 61):
            rows = [local_signs(Form(*numbers)) for numbers in TABLE[side]]
            width = len(rows[0])
            self.assertEqual(len(set(rows)), 2 ** width)
            self.assertEqual({rows.count(row) for row in rows}, {len(rows) // 2 ** width})

    def test_great_sides(self):
        began = time.process_time()
        for side in (1000000, 999999, 999983, 2 ** 19, 3 ** 12, 720720, 510510, 2 * 499979):
            wanted = ([(8, 1)] if side % 4 == 0 else []) + [(prime, 1) for prime in range(3, side + 1, 2)
                                                            if side % prime == 0 and is_prime(prime)]
            self.assertEqual(local_signs(idle_form(side)), tuple(wanted))
            for first in (2, 5, 17):
                last, over = divmod(side * side + 1, first)
                if over == 0 and math.gcd(first, last) % 2 == 1:
                    told = local_signs(Form(first, 1, last))
                    self.assertEqual([sign_by for by, sign_by in told if by != 8],
                                     [by_prime(first, prime) for prime, _ in wanted if prime != 8])
        self.assertLess(time.process_time() - began, 10)

    def test_errors(self):
        for value in NO_FORMS:
            self.assert_error(BadForm("form"), local_signs, value)
        for side in (1000001, 2000000, 10 ** 59):
            self.assert_error(TooMany("side", 1000000), local_signs, idle_form(side))
            self.assert_error(TooMany("side", 1000000), local_signs, Form(side * side, 0, 1))


def is_prime(number):
    """Whether an odd number above 1 is a prime."""
    return all(number % by for by in range(3, math.isqrt(number) + 1, 2))


class ByRim(Case):
    """sign_by_rim."""

    def test_all_rims(self):
        seen = set()
        for number in range(1, 61):
            for four in rim_fours(number):
                value = sign_near(four.bends)
                seen.add((number % 8, value))
                for order in ((0, 1, 2, 3), (0, 2, 1, 3), (3, 1, 0, 2), (2, 3, 1, 0)):
                    self.assertEqual(sign_by_rim(four.in_order(order)), value, four.bends)
        self.assertEqual(seen, set(itertools.product(range(8), (1, -1))))

    def test_behind_words(self):
        word = [at % 4 for at in range(200)]
        for number in (1, 2, 4, 6, 9, 12, 15, 20, 24):
            for four in rim_fours(number):
                for letters in ((0,), (1, 2), (3, 2, 1, 0), word):
                    now = Four(walked(four.bends, letters))
                    self.assertEqual(sign_by_rim(four=now), sign(now).value)

    def test_products_of_gaskets(self):
        for number in (5, 6, 12, 21, 28, 30):
            idle = Four((-number, number + 1, number * number + number, number * number + number + 1))
            for one, other in itertools.product(rim_fours(number), repeat=2):
                told = sign_by_rim(gasket_product(one, other))
                self.assertEqual(told, sign_by_rim(one) * sign_by_rim(other) * sign_by_rim(idle))

    def test_flat(self):
        for order in itertools.permutations(range(4)):
            for word in ((), (0,), (1, 2), (3, 0, 1)):
                self.assertEqual(sign_by_rim(FLAT.in_order(order).after(word)), 1)

    def test_great_rims(self):
        began = time.process_time()
        for rim in (1000000, 999999, 999998, 999997, 999996, 999983, 720720, 3 ** 12, 2 ** 19):
            square = rim * rim + rim
            four = Four((-rim, rim + 1, square, square + 1))
            self.assertEqual(sign_by_rim(four), sign(four).value)
            self.assertEqual(sign_by_rim(four.in_order((2, 3, 0, 1)).exchanged(2)), sign(four).value)
        self.assertLess(time.process_time() - began, 3)

    def test_errors(self):
        for value in NO_FOURS:
            self.assert_error(BadFour("four"), sign_by_rim, value)
        for rim in (1000001, 10 ** 29):
            square = rim * rim + rim
            self.assert_error(TooMany("side", 1000000), sign_by_rim, Four((-rim, rim + 1, square, square + 1)))
        word = [at % 4 for at in range(201)]
        great = Four((-1000001, 1000002, 1000003000002, 1000003000003))
        for start in (COINS, FLAT, great):
            self.assert_error(TooMany("letters", 200), sign_by_rim, Four(walked(start.bends, word)))
        self.assertEqual(sign_by_rim(Four(walked(COINS.bends, word[:200]))), -1)
        self.assertEqual(sign_by_rim(Four(walked(FLAT.bends, word[:200]))), 1)
        self.assert_error(TooMany("side", 1000000), sign_by_rim, Four(walked(great.bends, word[:200])))


if __name__ == "__main__":
    unittest.main()
