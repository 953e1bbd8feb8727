"""All least forms of a side, all fours with a rim, own mirrors."""

import itertools
import time
import unittest

from bendsigns.errors import BadFour, BadNumber, TooMany
from bendsigns.forms import Form
from bendsigns.fours import Four
from bendsigns.leasts import alike, rim
from bendsigns.rims import is_own_mirror, least_forms, rim_fours
from tests.helps import ODD_VALUES, Case
from tests.walks import least_fours, least_numbers, walked


class Lists(Case):
    """Forms and fours against an own trial."""

    def test_least_forms(self):
        for side in range(1, 61):
            told = least_forms(side)
            wanted = [numbers for numbers in least_numbers(side) if numbers[1] >= 0]
            self.assertIs(type(told), tuple)
            self.assertEqual([form.numbers for form in told], wanted)
            self.assertTrue(all(isinstance(form, Form) and form.side == side for form in told))

    def test_rim_fours(self):
        for number in range(1, 61):
            told = rim_fours(number)
            self.assertIs(type(told), tuple)
            self.assertEqual([four.bends for four in told], least_fours(number))
            self.assertTrue(all(isinstance(four, Four) and rim(four) == number for four in told))
        self.assertEqual(rim_fours(rim=1), (Four((-1, 2, 2, 3)),))
        self.assertEqual(least_forms(side=1), (Form(1, 0, 1),))

    def test_errors(self):
        for value in ODD_VALUES + (0, -1, 61, 10 ** 60, [], [5]):
            self.assert_error(BadNumber("side"), least_forms, value)
            self.assert_error(BadNumber("rim"), rim_fours, value)

    def test_short_time(self):
        began = time.process_time()
        rim_fours(60)
        self.assertLess(time.process_time() - began, 5)


class Mirrors(Case):
    """Gaskets that are their own mirrors."""

    def is_mirrored(self, four):
        """Whether the gasket is alike to its mirrored one in an odd order of places, too, or by a kept bend."""
        for first, second in itertools.combinations(range(4), 2):
            if four.bends[first] == four.bends[second]:
                return True
        return any(four.exchanged(place) == four for place in range(4))

    def test_rim_fours(self):
        for number in range(1, 61):
            for four in rim_fours(number):
                wanted = self.is_mirrored(four)
                self.assertIs(is_own_mirror(four), wanted)
                moved = four.in_order([2, 0, 3, 1]).after([1, 0, 2, 3])
                self.assertIs(is_own_mirror(four=moved), wanted)
                self.assertTrue(alike(four, moved))

    def test_all_kinds(self):
        for bends, wanted in (((-3, 5, 8, 8), True), ((-4, 8, 9, 9), True), ((-3, 4, 12, 13), True), ((-1, 2, 2, 3), True),
                              ((-12, 25, 25, 28), True), ((-6, 10, 15, 19), True), ((-6, 11, 14, 15), False),
                              ((-12, 17, 41, 44), False), ((0, 0, 1, 1), True)):
            for word in ((), (0,), (3, 2), (1, 2, 0)):
                self.assertIs(is_own_mirror(Four(walked(bends, word))), wanted, bends)

    def test_errors(self):
        for value in ODD_VALUES + ((-3, 5, 8, 8), [0]):
            self.assert_error(BadFour("four"), is_own_mirror, value)
        far = walked((-3, 5, 8, 8), [turn % 4 for turn in range(201)])
        self.assert_error(TooMany("letters", 200), is_own_mirror, Four(far))
        self.assert_true(is_own_mirror(Four(far).exchanged(0)))


if __name__ == "__main__":
    unittest.main()
