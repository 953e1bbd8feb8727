"""What touches a circle: lists, ways, numbers."""

import math
import time
import unittest

from bendsigns.around import form_at
from bendsigns.errors import BadFour, BadNumber, Flat, Misfit, NoPlace, TooMany
from bendsigns.forms import Form
from bendsigns.fours import Four
from bendsigns.leastforms import least_form
from bendsigns.touching import Touching, Untouched, Way, touches, touching, word_to
from tests.helps import ODD_VALUES, Case
from tests.walks import circles_round, told_pairs, walked

STARTS = ((-3, 5, 8, 8), (0, 0, 1, 1), (1, 0, 0, 1), (-1, 2, 2, 3), (3, 2, -1, 2), (-6, 10, 15, 19), (25, 28, -12, 25))
WORDS = ((), (0,), (3,), (1, 2), (2, 0, 3), (0, 1, 2, 3, 0))
PLACES = (0, 1, 2, 3)


def far_bends(letters):
    """Bends that many exchanges from the flat four, more than lead down to a least four at once."""
    return walked((0, 0, 1, 1), [turn % 4 for turn in range(letters)])


class Lists(Case):
    """touching: all circles up to a bound."""

    def check(self, bends, place, most):
        """What is told is what a walk finds, and each word leads to its circle."""
        four = Four(bends)
        told = touching(four, place, most)
        walk = circles_round(bends, place, most)
        self.assertEqual([bend for bend, x, y in told], sorted(bend for bend, word, at in walk))
        self.assertEqual(list(told), sorted(told))
        ways = []
        for bend, x, y in told:
            self.assertTrue(math.gcd(x, y) == 1 and (x > 0 or (x, y) == (0, 1)))
            self.assertEqual(form_at(four, place).worth(x, y), bend + bends[place])
            way = word_to(four, place, x, y)
            self.assertIsInstance(way, Way)
            self.assertEqual(walked(bends, way.letters)[way.at], bend)
            ways.append((bend, way.letters, way.at))
        self.assertEqual(sorted(ways), sorted(walk))

    def test_against_a_walk(self):
        for start in STARTS:
            for word in WORDS:
                bends = walked(start, word)
                for place in PLACES:
                    if bends[place] != 0:
                        self.check(bends, place, 60)
                        self.check(bends, place, 0)

    def test_greater_bounds(self):
        for bends, place, most in (((-3, 5, 8, 8), 0, 500), ((-3, 5, 8, 8), 2, 500), ((0, 0, 1, 1), 2, 300),
                                   ((-1, 2, 2, 3), 0, 200), ((-12, 25, 25, 28), 3, 499)):
            self.check(bends, place, most)

    def test_what_lies_below(self):
        self.assertEqual(touching(Four((-3, 5, 8, 8)), 1, 0), ((-3, 1, 0),))
        self.assertEqual(touching(Four((-3, 5, 8, 8)), 0, 4), ())
        self.assertEqual(touching(Four((0, 0, 1, 1)), 2, 0), ((0, 0, 1), (0, 1, 0)))
        self.assertEqual(touching(four=Four((1, 4, 0, 1)), place=1, most=0), ((0, 0, 1),))

    def test_fours_far_out(self):
        for letters in (250, 400):
            four = Four(far_bends(letters))
            for place in PLACES:
                self.assertIs(type(touching(four, place, 500)), tuple)
        # The last circle is far out, the one ahead of it less so: round the last one all is great.
        four = Four(walked((-3, 5, 8, 8), [1, 2] * 60))
        self.assertIn((-3, 1, 0), touching(four, 1, 500))
        self.assertEqual([row[0] for row in touching(four, 1, 500) if row[0] < 9], [-3, 8])

    def test_a_great_bend_below_zero(self):
        rim = 10 ** 30
        four = Four((-rim, rim + 1, rim * rim + rim, rim * rim + rim + 1))
        self.assertEqual(touching(four, 0, 500), ())
        self.assertEqual(touching(four, 1, 500), ((-rim, 1, 0),))

    def test_errors(self):
        three, flat = Four((-3, 5, 8, 8)), Four((0, 0, 1, 1))
        for value in ODD_VALUES + ((-3, 5, 8, 8), [0]):
            self.assert_error(BadFour("four"), touching, value, 9, -1)
        for value in ODD_VALUES + (-1, 4, [0]):
            self.assert_error(NoPlace(value), touching, flat, value, -1)
        for value in ODD_VALUES + (-1, 501, [5], 10 ** 60):
            self.assert_error(BadNumber("most"), touching, three, 0, value)
            self.assert_error(BadNumber("most"), touching, flat, 0, value)
        self.assert_error(Flat(), touching, flat, 0, 5)

    def test_short_time(self):
        began = time.process_time()
        for bends in ((-1, 2, 2, 3), (0, 0, 1, 1), (-3, 5, 8, 8)):
            touching(Four(bends), 2, 500)
        self.assertEqual(len(touching(Four((-1, 2, 2, 3)), 0, 500)), len(circles_round((-1, 2, 2, 3), 0, 500)))
        self.assertLess(time.process_time() - began, 10)


class Ways(Case):
    """word_to: the shortest word to a told pair."""

    def test_all_small_pairs(self):
        for bends in ((-3, 5, 8, 8), (1, 0, 0, 1), (45, 5, 8, 8)):
            four = Four(bends)
            for place in PLACES:
                if bends[place] == 0:
                    continue
                words = set()
                for x, y in told_pairs(7):
                    way = word_to(four, place, x, y)
                    self.assertNotIn(place, way.letters)
                    there = walked(bends, way.letters)
                    self.assertEqual(there[way.at], form_at(four, place).worth(x, y) - bends[place])
                    self.assertTrue(all(one != other for one, other in zip(way.letters, way.letters[1:])))
                    self.assertEqual(way.letters[-1:], (way.at,) if way.letters else ())
                    words.add((way.letters, way.at))
                self.assertEqual(len(words), len(told_pairs(7)))

    def test_beginnings(self):
        for place, others in ((0, (1, 2, 3)), (1, (0, 2, 3)), (2, (0, 1, 3)), (3, (0, 1, 2))):
            for pair, at in zip(((1, 0), (0, 1), (1, -1)), others):
                self.assertEqual(word_to(Four((-3, 5, 8, 8)), place, *pair).parts, ((), at))
        self.assertEqual(word_to(four=Four((-3, 5, 8, 8)), place=0, x=1, y=1), Way((3,), 3))

    def test_long_words(self):
        three = Four((-3, 5, 8, 8))
        self.assertEqual(len(word_to(three, 0, 1, 200).letters), 200)
        self.assertEqual(len(word_to(three, 0, 1, -201).letters), 200)
        self.assertEqual(len(word_to(three, 0, 200, 1).letters), 200)
        for x, y in ((1, 201), (1, -202), (201, 1), (10 ** 60, 1), (1, 10 ** 60), (10 ** 60 + 1, -(10 ** 60)), (1, -1000)):
            self.assert_error(TooMany("letters", 200), word_to, three, 0, x, y)

    def test_great_pairs(self):
        three, (x, y) = Four((-3, 5, 8, 8)), (1, 1)
        for turn in range(198):
            x, y = x + y, x
        way = word_to(three, 0, x, y)
        self.assertEqual(three.after(way.letters).bends[way.at], form_at(three, 0).worth(x, y) + 3)
        self.assertGreater(len(str(x)), 40)

    def test_no_told_pairs(self):
        three = Four((-3, 5, 8, 8))
        for x, y in ((0, 0), (0, -1), (0, 2), (2, 2), (2, 0), (-1, 0), (-1, 1), (-2, 3), (6, -9), (10 ** 60, 10 ** 30)):
            self.assert_error(Misfit("pair"), word_to, three, 0, x, y)

    def test_errors(self):
        three, flat = Four((-3, 5, 8, 8)), Four((0, 0, 1, 1))
        for value in ODD_VALUES + ((-3, 5, 8, 8), [0]):
            self.assert_error(BadFour("four"), word_to, value, 9, None, None)
        for value in ODD_VALUES + (-1, 4, [0]):
            self.assert_error(NoPlace(value), word_to, flat, value, None, None)
        for value in ODD_VALUES + ([], [1]):
            self.assert_error(BadNumber("x"), word_to, flat, 0, value, value)
            self.assert_error(BadNumber("y"), word_to, flat, 0, 2, value)
        self.assert_error(Flat(), word_to, flat, 0, 2, 2)
        self.assert_error(Flat(), word_to, flat, 1, 1, 1000)
        self.assert_error(Misfit("pair"), word_to, three, 0, 0, -1)


class Numbers(Case):
    """touches: the first told pair of a bend, or all least forms that have it."""

    def check(self, four, place, number, pairs):
        """The first of these told pairs is told, or what shows that there is none."""
        told = touches(four, place, number)
        if pairs:
            self.assertIsInstance(told, Touching)
            self.assertEqual((told.x, told.y), min(pairs))
            return
        self.assertIsInstance(told, Untouched)
        bend = four.bends[place]
        worth = number + bend
        wanted = []
        for t in range(worth):
            last, over = divmod(t * t + bend * bend, worth)
            if over == 0 and math.gcd(worth, t, last) == 1:
                wanted.append(least_form(Form(worth, t, last)).form)
        self.assertEqual(told.forms, tuple(wanted))
        self.assertNotIn(least_form(form_at(four, place)).form, told.forms)

    def test_against_lists(self):
        for start in STARTS:
            for word in WORDS[:4]:
                four = Four(walked(start, word))
                for place in PLACES:
                    bend = four.bends[place]
                    if bend == 0:
                        continue
                    rows = touching(four, place, 90)
                    for number in range(1 - bend, min(90, 2000 - bend) + 1):
                        self.check(four, place, number, [(x, y) for m, x, y in rows if m == number])

    def test_bounds(self):
        for bends, place in (((-3, 5, 8, 8), 0), ((-3, 5, 8, 8), 1), ((0, 0, 1, 1), 3), ((-1, 2, 2, 3), 0)):
            four, bend = Four(bends), bends[place]
            for worth in (1, 2, 1999, 2000):
                self.assertIn(touches(four, place, worth - bend).word, ("touching", "untouched"))
            for worth in (0, -1, 2001, -2000, 10 ** 60):
                self.assert_error(BadNumber("number"), touches, four, place, worth - bend)

    def test_great_numbers(self):
        three = Four((-3, 5, 8, 8))
        form = form_at(three, 0)
        for number in (1997, 1998, 2000, 2001, 2003):
            pairs = [(x, y) for x, y in told_pairs(45) if form.worth(x, y) == number - 3]
            self.check(three, 0, number, pairs)

    def test_round_the_unit_circle(self):
        four = Four((-1, 2, 2, 3))
        for number in range(2, 120):
            pairs = [(x, y) for x, y in told_pairs(11) if x * x + y * y == number - 1]
            self.check(four, 0, number, pairs)
        self.assertEqual(touches(four=four, place=0, number=2).parts, (0, 1))

    def test_fours_far_out(self):
        bends = far_bends(300)
        four = Four(bends)
        for place in PLACES:
            bend = bends[place]
            self.check(four, place, 7 - bend, [])
            self.check(four, place, 2000 - bend, [])

    def test_a_far_line_is_found(self):
        four = Four(walked((0, 0, 1, 1), [2, 1, 3] + [2, 3] * 6))
        self.assertEqual(four.bends, (0, 4, 625, 729))
        for place in (2, 3):
            self.check(four, place, 0, [(1, 0)])

    def test_errors(self):
        three, flat = Four((-3, 5, 8, 8)), Four((0, 0, 1, 1))
        for value in ODD_VALUES + ((-3, 5, 8, 8), [0]):
            self.assert_error(BadFour("four"), touches, value, 9, None)
        for value in ODD_VALUES + (-1, 4, [0]):
            self.assert_error(NoPlace(value), touches, flat, value, None)
        for value in ODD_VALUES + ([5],):
            self.assert_error(BadNumber("number"), touches, three, 0, value)
            self.assert_error(BadNumber("number"), touches, flat, 0, value)
        self.assert_error(BadNumber("number"), touches, flat, 0, 0)
        self.assert_error(BadNumber("number"), touches, flat, 0, 2001)
        self.assert_error(Flat(), touches, flat, 0, 1)
        self.assert_error(Flat(), touches, flat, 1, 2000)

    def test_short_time(self):
        began = time.process_time()
        for bends in ((-1, 2, 2, 3), (0, 0, 1, 1), (-3, 5, 8, 8)):
            touches(Four(bends), 2, 2000 - bends[2])
            touches(Four(bends), 3, 1999 - bends[3])
        self.assertLess(time.process_time() - began, 10)


if __name__ == "__main__":
    unittest.main()
