"""Forms: what is one, its worth, changes, mirrors, its text."""

import itertools
import math
import unittest

from bendsigns.errors import BadForm, BadNumber, BadText
from bendsigns.forms import Form
from tests.helps import ODD_VALUES, Case, Looser

FORMS = ((2, 1, 5), (1, 0, 1), (5, -2, 8), (17, 5, 2), (13, 5, 13), (1, 0, 10 ** 40))
TABLES = [table for table in itertools.product(range(-2, 3), repeat=4) if abs(table[0] * table[3] - table[1] * table[2]) == 1]


def wrong_part(first, half, last):
    """The part of the error for three integers, None for a form, as the document lists them."""
    if first <= 0 or last <= 0:
        return "sign"
    square = first * last - half * half
    if square <= 0 or math.isqrt(square) ** 2 != square:
        return "side"
    return "divisor" if math.gcd(first, half, last) > 1 else None


class Making(Case):
    """What is a form, and which error comes first."""

    def test_all_small_ones(self):
        for numbers in itertools.product(range(-3, 15), repeat=3):
            part = wrong_part(*numbers)
            if part is None:
                form = Form(*numbers)
                self.assertEqual(form.numbers, numbers)
                self.assertEqual(form.side ** 2, numbers[0] * numbers[2] - numbers[1] ** 2)
                self.assertGreater(form.side, 0)
            else:
                self.assert_error(BadForm(part), Form, *numbers)

    def test_names_and_great_numbers(self):
        great = 10 ** 300 + 1
        self.assertEqual(Form(first=1, half=0, last=great * great).side, great)
        self.assertEqual(Form(1, great, great * great + 1).side, 1)
        self.assert_error(BadForm("side"), Form, 1, great, great * great + 2)

    def test_no_numbers(self):
        for value in ODD_VALUES + ([], [1], (2, 1, 5)):
            self.assert_error(BadForm("numbers"), Form, value, 1, 5)
            self.assert_error(BadForm("numbers"), Form, 2, value, 5)
            self.assert_error(BadForm("numbers"), Form, -2, 1, value)

    def test_order_of_errors(self):
        for numbers, part in (
            ((0, 1, 5), "sign"), ((2, 1, 0), "sign"), ((-2, 1, -5), "sign"), ((0, 0, 0), "sign"), ((-4, 2, -10), "sign"),
            ((2, 1, 4), "side"), ((1, 1, 1), "side"), ((2, 3, 4), "side"), ((4, 4, 4), "side"), ((6, 0, 3), "side"),
            ((4, 2, 10), "divisor"), ((3, 0, 3), "divisor"), ((6, 3, 15), "divisor"),
        ):
            self.assert_error(BadForm(part), Form, *numbers)

    def test_equality(self):
        self.assert_true(Form(2, 1, 5) == Form(2, 1, 5))
        self.assert_false(Form(2, 1, 5) == Form(2, -1, 5))
        for other in ODD_VALUES + ((2, 1, 5), [2, 1, 5], "2 1 5", Looser()):
            self.assert_false(Form(2, 1, 5) == other)


class Worths(Case):
    """Worths, changed and mirrored forms."""

    def test_worth(self):
        for numbers in FORMS:
            first, half, last = numbers
            for x, y in itertools.product(range(-4, 5), repeat=2):
                self.assertEqual(Form(*numbers).worth(x, y), first * x * x + 2 * half * x * y + last * y * y)
        self.assertEqual(Form(2, 1, 5).worth(y=-3, x=-2), 65)

    def test_worth_errors(self):
        for value in ODD_VALUES + ([], [1]):
            self.assert_error(BadNumber("x"), Form(2, 1, 5).worth, value, value)
            self.assert_error(BadNumber("y"), Form(2, 1, 5).worth, 1, value)

    def test_changed(self):
        for numbers in FORMS:
            form = Form(*numbers)
            for p, q, r, s in TABLES:
                told = form.changed(p, q, r, s)
                self.assertIsInstance(told, Form)
                self.assertEqual(told.side, form.side)
                for x, y in ((1, 0), (0, 1), (1, 1), (-2, 3)):
                    self.assertEqual(told.worth(x, y), form.worth(p * x + q * y, r * x + s * y))
                self.assertEqual(form.numbers, numbers)
        self.assertEqual(Form(2, 1, 5).changed(p=1, q=2, r=0, s=1).numbers, (2, 5, 17))

    def test_changed_errors(self):
        form = Form(2, 1, 5)
        for value in ODD_VALUES + ([], [1]):
            self.assert_error(BadNumber("p"), form.changed, value, value, value, value)
            self.assert_error(BadNumber("q"), form.changed, 1, value, value, value)
            self.assert_error(BadNumber("r"), form.changed, 1, 0, value, value)
            self.assert_error(BadNumber("s"), form.changed, 5, 5, 5, value)
        for table in ((1, 2, 3, 4), (1, 1, 1, 1), (0, 0, 0, 0), (2, 0, 0, 1), (1, 0, 0, 10 ** 60), (3, 1, 1, 1)):
            self.assert_error(BadNumber("determinant"), form.changed, *table)

    def test_mirrored(self):
        for numbers in FORMS:
            form = Form(*numbers)
            self.assertEqual(form.mirrored().numbers, (numbers[0], -numbers[1], numbers[2]))
            self.assertEqual(form.mirrored().mirrored(), form)
            self.assertEqual(form.mirrored(), form.changed(1, 0, 0, -1))


class Texts(Case):
    """The text of a form, and reading it."""

    def test_text_and_back(self):
        for numbers in FORMS[:5]:
            form = Form(*numbers)
            self.assertEqual(str(form), " ".join(str(number) for number in numbers))
            self.assertEqual(Form.read(str(form)), form)
            self.assertEqual(Form.read(text=str(form.mirrored())), form.mirrored())
        root = 10 ** 29 + 3
        self.assertEqual(Form.read(f"1 0 {root * root}").side, root)

    def test_wrong_items(self):
        for bad in ("", "+2", "02", "-0", "--2", "-", "2.0", "x", "2\n", "\t2", "\u0662", "00", "1" * 61, "-" + "1" * 61,
                    "9" * 5000):
            for index in range(3):
                items = ["2", "1", "5"]
                items[index] = bad
                self.assert_error(BadText(0, index), Form.read, " ".join(items))
            self.assert_error(BadText(0, 3), Form.read, "2 1 5 " + bad)

    def test_the_first_item(self):
        for bad in ("0", "-1", "-2", "-" + "9" * 60):
            self.assert_error(BadText(0, 0), Form.read, bad + " 1 5")
            self.assert_error(BadText(0, 0), Form.read, bad)
            self.assert_error(BadText(0, 0), Form.read, bad + " x")

    def test_too_few_and_too_many(self):
        for text, item in (("", 0), ("2", 1), ("2 1", 2), ("2 1 5 ", 3), ("2 1 5 5 x", 3), (" 2 1 5", 0), ("2  1 5", 1),
                           ("2 1 4 0", 3)):
            self.assert_error(BadText(0, item), Form.read, text)

    def test_only_the_whole(self):
        for text in ("2 1 4", "4 2 10", "1 0 0", "1 0 -1", "1 1 1", "1 5 2"):
            self.assert_error(BadText(0, 2), Form.read, text)

    def test_no_string(self):
        for value in ODD_VALUES + ([], [2, 1, 5], Form(2, 1, 5)):
            if not isinstance(value, str):
                self.assert_error(BadText(0, 0), Form.read, value)


if __name__ == "__main__":
    unittest.main()
