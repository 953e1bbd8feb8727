"""The form at a place, and fours from forms."""

import unittest

from bendsigns.around import form_at, four_from
from bendsigns.errors import BadForm, BadFour, Flat, NoPlace
from bendsigns.forms import Form
from bendsigns.fours import Four
from tests.helps import ODD_VALUES, Case
from tests.walks import least_numbers, walked, words_up_to

STARTS = ((-3, 5, 8, 8), (0, 0, 1, 1), (1, 0, 1, 0), (-1, 2, 2, 3), (-6, 10, 15, 19), (28, -12, 25, 25))
PAIRS = ((1, 0), (0, 1), (1, -1))


class FormsAt(Case):
    """The form at a place of a four."""

    def test_every_place(self):
        for start in STARTS:
            for word in words_up_to(3):
                bends = walked(start, word)
                for place in range(4):
                    self.check(bends, place)

    def check(self, bends, place):
        """The form has the worths of the three other circles, and the bend as its side."""
        bend = bends[place]
        if bend == 0:
            self.assert_error(Flat(), form_at, Four(bends), place)
            return
        form = form_at(Four(bends), place=place)
        others = bends[:place] + bends[place + 1:]
        self.assertEqual(form.side, abs(bend))
        self.assertEqual(tuple(form.worth(x, y) - bend for x, y in PAIRS), others)
        self.assertEqual(form.numbers[0], bend + others[0])

    def test_far_from_the_least_one(self):
        bends = (0, 0, 1, 1)
        for turn in range(300):
            bends = walked(bends, (turn % 4,))
        for place in range(4):
            self.check(bends, place)

    def test_errors(self):
        four = Four((0, 0, 1, 1))
        for value in ODD_VALUES + ((-3, 5, 8, 8), [0]):
            self.assert_error(BadFour("four"), form_at, value, value)
        for value in ODD_VALUES + (-1, 4, [0]):
            self.assert_error(NoPlace(value), form_at, four, value)
        self.assert_error(Flat(), form_at, four, 0)


class FoursFrom(Case):
    """Fours from forms, with both signs."""

    def test_both_signs(self):
        for side in range(1, 20):
            for numbers in least_numbers(side):
                for table in ((1, 0, 0, 1), (2, 1, 1, 1), (0, 1, 1, 0), (5, 3, 3, 2)):
                    form = Form(*numbers).changed(*table)
                    for is_rim in (True, False):
                        four = four_from(form=form, is_rim=is_rim)
                        self.assertEqual(four.bends[0], -side if is_rim else side)
                        self.assertEqual(form_at(four, 0), form)

    def test_back_from_places(self):
        for start in STARTS:
            for word in words_up_to(2):
                four = Four(walked(start, word))
                for place in range(4):
                    if four.bends[place] != 0:
                        order = [place] + [other for other in range(4) if other != place]
                        told = four_from(form_at(four, place), four.bends[place] < 0)
                        self.assertEqual(told, four.in_order(order))

    def test_errors(self):
        for value in ODD_VALUES + ((2, 1, 5), [2, 1, 5]):
            self.assert_error(BadForm("form"), four_from, value, True)


if __name__ == "__main__":
    unittest.main()
