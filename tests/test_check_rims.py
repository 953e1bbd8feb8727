"""Checking lists of least forms and of rim fours."""

import unittest

from bendsigns.check_rims import shows_least_forms, shows_rim_fours
from bendsigns.errors import BadNumber
from bendsigns.forms import Form
from bendsigns.fours import Four
from bendsigns.rims import least_forms, rim_fours
from tests.helps import ODD_VALUES, Case, Looser


class RimFours(Case):
    """shows_rim_fours of right and wrong lists."""

    def test_right(self):
        for rim in range(1, 61):
            told = rim_fours(rim)
            self.assert_true(shows_rim_fours(rim, told))
            self.assert_true(shows_rim_fours(rim=rim, value=list(told)))
            self.assert_true(shows_rim_fours(rim, [Four(four.bends) for four in told]))

    def test_left_out_twice_other_order(self):
        for rim in (3, 6, 12, 30, 60):
            told = list(rim_fours(rim))
            for index in range(len(told)):
                self.assert_false(shows_rim_fours(rim, told[:index] + told[index + 1:]))
                self.assert_false(shows_rim_fours(rim, told[:index] + told[index:index + 1] + told[index:]))
                if index > 0:
                    self.assert_false(shows_rim_fours(rim, told[:index - 1] + [told[index], told[index - 1]] + told[index + 1:]))
                    self.assert_false(shows_rim_fours(rim, told[:index] + [told[index - 1]] + told[index + 1:]))
            self.assert_false(shows_rim_fours(rim, told[::-1]))
            self.assert_false(shows_rim_fours(rim, told + [None]))

    def test_bent_fours(self):
        told = list(rim_fours(12))
        for index, four in enumerate(told):
            for bent in (four.in_order([0, 2, 1, 3]), four.in_order([1, 0, 2, 3]), four.exchanged(3), four.exchanged(0),
                         four.bends, str(four), None, True, Looser(), list(four.bends)):
                if not bent == four or isinstance(bent, Looser):
                    self.assert_false(shows_rim_fours(12, told[:index] + [bent] + told[index + 1:]))

    def test_of_another_rim(self):
        self.assert_false(shows_rim_fours(6, rim_fours(3)))
        self.assert_false(shows_rim_fours(2, rim_fours(1)))
        for rim in range(1, 60):
            self.assert_false(shows_rim_fours(rim + 1, rim_fours(rim)))
            self.assert_false(shows_rim_fours(rim, least_forms(rim)))

    def test_any_value(self):
        for value in ODD_VALUES + ([], 0, Looser(), [Looser()], dict(enumerate(rim_fours(3))), rim_fours(1)[0]):
            self.assert_false(shows_rim_fours(1, value))

    def test_errors(self):
        for value in ODD_VALUES + (0, -1, 61, 10 ** 60, [], [5]):
            self.assert_error(BadNumber("rim"), shows_rim_fours, value, None)


class LeastForms(Case):
    """shows_least_forms of right and wrong lists."""

    def test_right(self):
        for side in range(1, 61):
            told = least_forms(side)
            self.assert_true(shows_least_forms(side, told))
            self.assert_true(shows_least_forms(side=side, value=[Form(*form.numbers) for form in told]))

    def test_left_out_twice_other_order(self):
        for side in (3, 6, 12, 30, 60):
            told = list(least_forms(side))
            for index in range(len(told)):
                self.assert_false(shows_least_forms(side, told[:index] + told[index + 1:]))
                self.assert_false(shows_least_forms(side, told[:index + 1] + told[index:]))
                if index > 0:
                    self.assert_false(shows_least_forms(side, told[:index] + [told[index - 1]] + told[index + 1:]))
            self.assert_false(shows_least_forms(side, told[::-1]))
            self.assert_false(shows_least_forms(side, told + [None]))

    def test_bent_forms(self):
        told = list(least_forms(12))
        for index, form in enumerate(told):
            for bent in (form.mirrored(), form.changed(1, 1, 0, 1), form.changed(0, -1, 1, 0), Form(1, 0, 169),
                         form.numbers, str(form), None, True, Looser()):
                if not bent == form or isinstance(bent, Looser):
                    self.assert_false(shows_least_forms(12, told[:index] + [bent] + told[index + 1:]))

    def test_of_another_side(self):
        for side in range(1, 60):
            self.assert_false(shows_least_forms(side + 1, least_forms(side)))
            self.assert_false(shows_least_forms(side, rim_fours(side)))

    def test_any_value(self):
        for value in ODD_VALUES + ([], 0, Looser(), [Looser()], [(1, 0, 1)], "1 0 1", Form(1, 0, 1)):
            self.assert_false(shows_least_forms(1, value))

    def test_errors(self):
        for value in ODD_VALUES + (0, -1, 61, 10 ** 60, [], [5]):
            self.assert_error(BadNumber("side"), shows_least_forms, value, None)


if __name__ == "__main__":
    unittest.main()
