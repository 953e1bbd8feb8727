"""Least fours, rims, gaskets that are alike."""

import itertools
import unittest

from bendsigns.errors import BadFour, TooMany
from bendsigns.fours import Four
from bendsigns.leasts import Alike, Least, Unlike, alike, least, least_bends, rim, shows_least
from bendsigns.papers import Denial, Paper
from bendsigns.words import is_rising, is_running
from tests.helps import ODD_VALUES, Case, Looser, look_alike
from tests.walks import least_fours, lowered, walked, words_up_to

LEASTS = ((-3, 5, 8, 8), (0, 0, 1, 1), (1, 0, 1, 0), (-1, 2, 2, 3), (2, -1, 3, 2), (-6, 10, 15, 19), (28, 25, 25, -12))


def far_four(letters):
    """A four so many exchanges from (-3, 5, 8, 8), all of them upwards, and the word."""
    word = tuple(index % 4 for index in range(letters))
    return Four(walked((-3, 5, 8, 8), word)), word


class Leasts(Case):
    """The least four and the rising word."""

    def test_down_from_words(self):
        for start in LEASTS:
            for word in words_up_to(4):
                four = Four(walked(start, word))
                told = least(four)
                self.assertEqual((told.four.bends, told.letters), lowered(four.bends))
                self.assertIs(type(told.letters), tuple)
                self.assertEqual(told.four.after(told.letters), four)
                self.assert_true(is_rising(told.four, told.letters) and is_running(told.letters))
                if start[0] + start[1] != 0:
                    self.assertEqual(told.four.bends, start)

    def test_a_kept_bend_goes_out(self):
        four = Four((-1, 2, 2, 3))
        self.assertEqual(least(four.after([3, 0])).letters, (0,))
        self.assertEqual(least(four.after([3])).parts, (four, ()))

    def test_flat(self):
        for bends in set(itertools.permutations((0, 0, 1, 1))):
            four = Four(bends)
            self.assertEqual(least(four).parts, (four, ()))
            self.assertEqual((rim(four), least_bends(four)), (0, (0, 0, 1, 1)))
            for word in words_up_to(4):
                self.assertEqual(rim(four.after(word)), 0)
                self.assertEqual(least_bends(four.after(word)), (0, 0, 1, 1))

    def test_two_hundred_exchanges(self):
        four, word = far_four(200)
        self.assertEqual(least(four).parts, (Four((-3, 5, 8, 8)), word))
        self.assertEqual((rim(four), least_bends(four)), (3, (-3, 5, 8, 8)))
        self.assert_true(shows_least(four, Least(Four((-3, 5, 8, 8)), word)))
        self.assertEqual(alike(four, four).places, (0, 1, 2, 3))

    def test_one_more(self):
        four, word = far_four(201)
        three = Four((-3, 5, 8, 8))
        for call, args in ((least, (four,)), (rim, (four,)), (least_bends, (four,)), (alike, (three, four)),
                           (alike, (four, three)), (shows_least, (four, None)),
                           (shows_least, (four, Least(three, word)))):
            self.assert_error(TooMany("letters", 200), call, *args)

    def test_errors(self):
        for value in ODD_VALUES + ((-3, 5, 8, 8), [0]):
            self.assert_error(BadFour("four"), least, value)
            self.assert_error(BadFour("four"), rim, value)
            self.assert_error(BadFour("four"), least_bends, value)
            self.assert_error(BadFour("four"), shows_least, value, None)
            self.assert_error(BadFour("one"), alike, value, value)
            self.assert_error(BadFour("other"), alike, far_four(201)[0], value)

    def test_rims(self):
        for number in range(1, 8):
            for bends in least_fours(number):
                for order in ((0, 1, 2, 3), (3, 1, 0, 2)):
                    four = Four(bends).in_order(order).after([1, 3, 0, 2])
                    self.assertEqual((rim(four), least_bends(four=four)), (number, bends))


class AlikeGaskets(Case):
    """Gaskets that are alike but for the order of places."""

    def test_first_order(self):
        for start in LEASTS:
            for order in itertools.permutations(range(4)):
                one, other = Four(start).after([1, 2, 0]), Four(start).in_order(order).after([3, 0])
                here, there = least(one).four, least(other).four
                fitting = [places for places in itertools.permutations(range(4)) if here.in_order(places) == there]
                told = alike(one, other)
                self.assertIsInstance(told, Alike)
                self.assertEqual(told.places, fitting[0])

    def test_unlike(self):
        bends = [least_bends(Four(start)) for start in LEASTS]
        for one, other in itertools.product(LEASTS, repeat=2):
            told = alike(one=Four(one).after([0, 3]), other=Four(other).after([2]))
            same = sorted(one) == sorted(other)
            self.assertIs(bool(told), same)
            if not same:
                self.assertIsInstance(told, Unlike)
                self.assertEqual(told.parts, (bends[LEASTS.index(one)], bends[LEASTS.index(other)]))


class Checking(Case):
    """shows_least of right and bent papers."""

    def test_right(self):
        for start in LEASTS:
            for word in words_up_to(3):
                four = Four(walked(start, word))
                told = least(four)
                self.assert_true(shows_least(four, told))
                self.assert_true(shows_least(four=four, value=Least(told.four, list(told.letters))))

    def test_bent(self):
        three, far = Four((-3, 5, 8, 8)), Four((45, 117, 8, 8))
        for value in (
            Least(three, (0, 1, 2, 2)), Least(three, (1, 0)), Least(three, ()), Least(three, (0,)), Least(three, None),
            Least(far, ()), Least(None, (0, 1)), Least((-3, 5, 8, 8), (0, 1)), Least(three, (False, True)),
            Least(three, (0, True)), Least(three, "01"), Least(three, ((0, 1),)), Least(Looser(), (0, 1)),
            Least(three, Looser()), Least(Four((-3, 8, 5, 8)), (0, 1)), Least((0, 1), three), Least(three, (0, 1.0)),
            Least(three, {0: 1}), Least(three, (0, 1) + (2, 2) * 200),
        ):
            self.assert_false(shows_least(far, value))

    def test_of_another_class(self):
        three, far = Four((-3, 5, 8, 8)), Four((45, 117, 8, 8))
        below = type("Below", (Least,), {})
        for value in ODD_VALUES + (
            Paper("least", three, (0, 1)), Denial("least", three, (0, 1)), Alike((0, 1)), Unlike(three, (0, 1)),
            (three, (0, 1)), three, below(three, (0, 1)), Looser(), Least,
            look_alike("Least", word="least", four=three, letters=(0, 1), parts=(three, (0, 1))),
        ):
            self.assert_false(shows_least(far, value))


if __name__ == "__main__":
    unittest.main()
