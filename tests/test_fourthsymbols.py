"""Fourth symbols, and the steps that tell them."""

import itertools
import random
import time
import unittest

from bendsigns.errors import BadPair
from bendsigns.fourthsymbols import FourthSteps, fourth_steps, fourth_symbol, shows_fourth_steps
from bendsigns.pairs import Pair
from bendsigns.papers import Denial, Paper
from bendsigns.symbols import Steps
from tests import gauss
from tests.helps import ODD_VALUES, Case, Looser, look_alike

PRIMES = gauss.primes_up_to(90)
BIG = 10 ** 59 + 9
EVEN = (Pair(0, 0), Pair(1, 1), Pair(2, 0), Pair(0, -4), Pair(3, -5), Pair(BIG, BIG))
NO_PAIRS = ODD_VALUES + (0, 7, (7, 2), [7, 2], 7 + 2j, Looser(), look_alike("Pair", one=7, other=2, norm=53))
SEVEN, TWO_THREE = Pair(7, 2), Pair(2, 3)


def plain(pair):
    """The two integers of a Pair."""
    return pair.one, pair.other


def own_row(over, by):
    """The row of a rest by a primary pair, by trying, and what is left."""
    times, odd = 0, over
    while gauss.divides((1, 1), odd):
        times, odd = times + 1, tuple(int(part) for part in gauss.over(odd, (1, 1)))
    for power in range(4):
        left = gauss.times(odd, gauss.UNITS[-power % 4])
        if left[1] % 2 == 0 and sum(left) % 4 == 1:
            break
    a, b = by
    quarter, other_quarter = (gauss.norm(by) - 1) // 4, (gauss.norm(left) - 1) // 4
    change = times * (a - b - b * b - 1) // 4 + power * quarter + 2 * quarter * other_quarter
    return (over, by, times, power, left, change % 4), left


def drawn_steps(draw, number, by, many):
    """Rows of steps with drawn rests, then with the nearest ones to the end, and the symbol."""
    second = plain(Pair(*by).primary()[1])
    rows = []
    while True:
        over = plain(Pair(*number).divided(Pair(*second))[1])
        if len(rows) < many:
            over = gauss.less(over, gauss.times(second, (draw.randint(-3, 3), draw.randint(-3, 3))))
        if over == (0, 0):
            break
        row, left = own_row(over, second)
        rows.append(row)
        number, second = second, left
    return tuple(rows), sum(row[5] for row in rows) % 4 if second == (1, 0) else None


class Symbols(Case):
    """fourth_symbol against powers and products."""

    def test_by_prime_pairs(self):
        for prime in PRIMES:
            for number in gauss.all_up_to(5):
                self.assertEqual(fourth_symbol(Pair(*number), Pair(*prime)), gauss.by_prime(number, prime))

    def test_by_products(self):
        draw = random.Random(3)
        for turn in range(600):
            primes = [draw.choice(PRIMES) for _ in range(draw.randrange(5))]
            by = draw.choice(gauss.UNITS)
            for prime in primes:
                by = gauss.times(by, prime)
            number = (draw.randint(-300, 300), draw.randint(-300, 300))
            told = fourth_symbol(number=Pair(*number), by=Pair(*by))
            self.assertEqual(told, gauss.by_primes(number, primes))
            self.assertIn(type(told), (int, type(None)))

    def test_by_units(self):
        for unit in gauss.UNITS:
            for number in gauss.all_up_to(3) + [(BIG, -3)]:
                self.assertEqual(fourth_symbol(Pair(*number), Pair(*unit)), 0)

    def test_none(self):
        for by in gauss.all_up_to(6):
            for number in gauss.all_up_to(4):
                if gauss.norm(by) % 2:
                    divided = Pair(*number).common(Pair(*by)).norm > 1
                    self.assertIs(fourth_symbol(Pair(*number), Pair(*by)) is None, divided)
        self.assertIsNone(fourth_symbol(Pair(0, 0), TWO_THREE))

    def test_kin(self):
        for by in PRIMES[:12] + [(21, 0), (7, 4)]:
            for number in gauss.all_up_to(3):
                told = fourth_symbol(Pair(*number), Pair(*by))
                for turn in range(1, 4):
                    self.assertEqual(fourth_symbol(Pair(*number), Pair(*by).times_i(turn)), told)
                flipped = fourth_symbol(Pair(*number).flipped(), Pair(*by).flipped())
                self.assertEqual(flipped, None if told is None else -told % 4)

    def test_integers_by_integers(self):
        for number in range(-20, 20):
            for by in (1, -1, 3, 5, -7, 15, 21, 25, 77):
                told = fourth_symbol(Pair(number, 0), Pair(by, 0))
                self.assertIn(told, (0, None))

    def test_great_pairs(self):
        primes = [PRIMES[3], PRIMES[10], PRIMES[17], PRIMES[17], PRIMES[24], PRIMES[30]] * 3
        by = (1, 0)
        for prime in primes:
            by = gauss.times(by, prime)
        for number in ((BIG, 3), (-BIG, BIG + 2), (10 ** 58, -7), (5, 10 ** 59)):
            self.assertEqual(fourth_symbol(Pair(*number), Pair(*by)), gauss.by_primes(number, primes))

    def test_errors(self):
        for call in (fourth_symbol, fourth_steps):
            for value in NO_PAIRS:
                self.assert_error(BadPair("number"), call, value, None)
                self.assert_error(BadPair("by"), call, Pair(0, 0), value)
            for value in EVEN:
                self.assert_error(BadPair("by"), call, SEVEN, value)

    def test_short_time(self):
        began = time.process_time()
        one, other = Pair(1, 0), Pair(0, 0)
        while len(str(one.one)) < 60:
            one, other = one * Pair(2, 1) + other, one
        by = one if one.norm % 2 else one + Pair(1, 0)
        for turn in range(10):
            told = fourth_steps(other + Pair(turn, 0), by)
            self.assert_true(shows_fourth_steps(other + Pair(turn, 0), by, told))
        self.assertLess(time.process_time() - began, 5)


class Rows(Case):
    """The rows of fourth_steps."""

    def check(self, number, by):
        """The rows have the nearest rests, and lead to the symbol."""
        told = fourth_steps(Pair(*number), Pair(*by))
        self.assertIsInstance(told, FourthSteps)
        now, second = number, plain(Pair(*by).primary()[1])
        for row in told.rows:
            over = plain(Pair(*now).divided(Pair(*second))[1])
            wanted, left = own_row(over, second)
            self.assertEqual(row, wanted)
            now, second = second, left
        self.assertTrue(gauss.divides(second, now))
        self.assertEqual(told.value, fourth_symbol(Pair(*number), Pair(*by)))
        self.assert_true(shows_fourth_steps(Pair(*number), Pair(*by), told))
        return told

    def test_small(self):
        for by in gauss.all_up_to(5):
            if gauss.norm(by) % 2:
                for number in gauss.all_up_to(5):
                    self.check(number, by)

    def test_great(self):
        for by in ((BIG, 4), (-BIG, 10 ** 59), (6, BIG), (3 ** 120, 0)):
            for number in ((10 ** 59, 10 ** 59 + 7), (-3, BIG), (2 ** 190, 0), (BIG - 1, 4)):
                self.check(number, by)

    def test_no_rows(self):
        self.assertEqual(fourth_steps(number=Pair(0, 0), by=TWO_THREE).parts, ((), None))
        self.assertEqual(fourth_steps(Pair(4, 6), TWO_THREE).parts, ((), None))
        self.assertEqual(fourth_steps(Pair(4, 6), Pair(0, 1)).parts, ((), 0))


class Shown(Case):
    """shows_fourth_steps of right and bent papers."""

    def test_whatever_rests(self):
        draw = random.Random(5)
        for turn in range(400):
            by = (draw.randint(-30, 30), draw.randint(-30, 30))
            by = by if gauss.norm(by) % 2 else (by[0] + 1, by[1])
            number = (draw.randint(-60, 60), draw.randint(-60, 60))
            rows, value = drawn_steps(draw, number, by, draw.randrange(5))
            self.assertEqual(value, fourth_symbol(Pair(*number), Pair(*by)))
            self.assert_true(shows_fourth_steps(Pair(*number), Pair(*by), FourthSteps(rows, value)))
            for bent in {None, 0, 1, 2, 3, 4, -1} - {value}:
                self.assert_false(shows_fourth_steps(Pair(*number), Pair(*by), FourthSteps(rows, bent)))

    def test_steps_behind_one(self):
        # By (1, 0) any rest may be taken, so steps may go on there.
        on = ((3, 2), (1, 0), 0, 0, (3, 2), 0)
        back = ((1, 0), (3, 2), 0, 0, (1, 0), 0)
        for rows, right in (((), True), ((on,), False), ((on, back), True), ((on, back) * 300, True), ((back,), False),
                            ((on, back, on), False)):
            for value in (0, None):
                told = FourthSteps(rows, value)
                self.assertIs(shows_fourth_steps(Pair(3, 2), Pair(0, 1), told), right and value == 0)

    def test_steps_must_end(self):
        rows = fourth_steps(Pair(11, 4), Pair(7, 8)).rows
        value = fourth_symbol(Pair(11, 4), Pair(7, 8))
        self.assertGreater(len(rows), 1)
        for count in range(len(rows)):
            for told in (value, None, 0, sum(row[5] for row in rows[:count]) % 4):
                self.assert_false(shows_fourth_steps(Pair(11, 4), Pair(7, 8), FourthSteps(rows[:count], told)))
        self.assert_true(shows_fourth_steps(number=Pair(11, 4), by=Pair(7, 8), value=FourthSteps(list(rows), value)))

    def bends(self, rows):
        """Each number in each row exchanged for other values."""
        for index, row in enumerate(rows):
            for place in range(6):
                for part in self.bent_part(row[place]):
                    yield rows[:index] + (row[:place] + (part,) + row[place + 1:],) + rows[index + 1:]
            for bent in (row[:5], row + (0,), (), None, True, 5, "row", Looser(), row[1:] + row[:1]):
                yield rows[:index] + (bent,) + rows[index + 1:]

    def bent_part(self, part):
        """Other values than a part of a row."""
        for value in (None, Looser(), "1", 1.5, (part,)):
            yield value
        if isinstance(part, tuple):
            one, other = part
            yield from ((one + 1, other), (one, other + 2), (-one, -other), (other, one + 4), (one,), part + (0,), one,
                        (float(one), other), (one, str(other)), (one, None), Pair(one, other), (0, 0), (Looser(), other))
        else:
            yield from (part + 1, part - 1, part + 4, -part - 1, float(part), str(part), part + 2)
            if part in (0, 1):
                yield bool(part)

    def test_bent_rows(self):
        for number, by in ((SEVEN, TWO_THREE), (Pair(11, 4), Pair(7, 8)), (Pair(5, 1), Pair(3, 0)), (Pair(4, 0), Pair(9, 2))):
            told = fourth_steps(number, by)
            self.assert_true(shows_fourth_steps(number, by, told))
            for rows in self.bends(told.rows):
                for value in (told.value, None):
                    self.assert_false(shows_fourth_steps(number, by, FourthSteps(rows, value)))
            for rows in ODD_VALUES + (Looser(), told.rows + told.rows[-1:], told.rows[::-1] + told.rows, told.rows[0], 5):
                self.assert_false(shows_fourth_steps(number, by, FourthSteps(rows, told.value)))

    def test_a_rest_of_zero_has_no_row(self):
        for number, by, second in ((Pair(0, 0), TWO_THREE, (3, -2)), (Pair(4, 6), TWO_THREE, (3, -2)), (SEVEN, Pair(0, 1), (1, 0))):
            for rows in ([((0, 0), second, 0, 0, (1, 0), 0)], [((0, 0), second, 0, 0, (0, 0), 0)]):
                for value in (0, None):
                    self.assert_false(shows_fourth_steps(number, by, FourthSteps(rows, value)))

    def test_bent_values(self):
        for number, by in ((SEVEN, TWO_THREE), (Pair(1, 0), Pair(3, 0)), (Pair(0, 1), Pair(7, 0)), (Pair(0, 1), TWO_THREE)):
            told = fourth_steps(number, by)
            self.assertIsNotNone(told.value)
            for value in (None, told.value + 4, told.value - 4, float(told.value), str(told.value), (told.value,),
                          Looser(), bool(told.value), (told.value + 1) % 4):
                self.assert_false(shows_fourth_steps(number, by, FourthSteps(told.rows, value)))
        rows = fourth_steps(Pair(0, 0), TWO_THREE).rows
        for value in (0, False, (), "None", Looser(), 4):
            self.assert_false(shows_fourth_steps(Pair(0, 0), TWO_THREE, FourthSteps(rows, value)))
        self.assert_true(shows_fourth_steps(Pair(0, 0), TWO_THREE, FourthSteps(rows, None)))

    def test_of_other_pairs(self):
        told = fourth_steps(SEVEN, TWO_THREE)
        for number, by, right in ((SEVEN, Pair(3, -2), True), (SEVEN, Pair(2, -3), False), (Pair(7, 3), TWO_THREE, False),
                                  (SEVEN + TWO_THREE, TWO_THREE, True), (Pair(0, -2), TWO_THREE, True)):
            self.assertIs(shows_fourth_steps(number, by, told), right)

    def test_of_another_class(self):
        told = fourth_steps(SEVEN, TWO_THREE)
        for value in ODD_VALUES + (
            Paper("fourthsteps", *told.parts), Denial("fourthsteps", *told.parts), Steps(*told.parts), told.parts, 2,
            type("Below", (FourthSteps,), {})(*told.parts), Looser(), FourthSteps,
            look_alike("FourthSteps", rows=told.rows, value=told.value, word="fourthsteps", parts=told.parts),
        ):
            self.assert_false(shows_fourth_steps(SEVEN, TWO_THREE, value))

    def test_errors(self):
        told = fourth_steps(SEVEN, TWO_THREE)
        for value in NO_PAIRS:
            self.assert_error(BadPair("number"), shows_fourth_steps, value, None, told)
            self.assert_error(BadPair("by"), shows_fourth_steps, SEVEN, value, told)
        for value in EVEN:
            self.assert_error(BadPair("by"), shows_fourth_steps, SEVEN, value, None)

    def test_long_papers(self):
        began = time.process_time()
        great = 5 ** 80
        on, back = ((great, 0), (1, 0), 0, 0, (great, 0), 0), ((1, 0), (great, 0), 0, 0, (1, 0), 0)
        self.assert_true(shows_fourth_steps(Pair(5, 0), Pair(1, 0), FourthSteps([on, back] * 400, 0)))
        self.assertLess(time.process_time() - began, 5)


if __name__ == "__main__":
    unittest.main()
