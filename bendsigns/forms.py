"""Forms: three integers that tell what touches one circle."""

from bendsigns.checks import are_integers, common_divisor, whole_root
from bendsigns.errors import BadForm, BadNumber, BadText
from bendsigns.needs import need_integer
from bendsigns.texts import read_numbers


def worth_at(numbers, x, y):
    """The worth at (x, y) of the form with these numbers."""
    first, half, last = numbers
    return first * x * x + 2 * half * x * y + last * y * y


def changed_numbers(numbers, change):
    """The numbers of a form, changed by (p, q, r, s)."""
    first, half, last = numbers
    p, q, r, s = change
    middle = first * p * q + half * (p * s + q * r) + last * r * s
    return (worth_at(numbers, p, r), middle, worth_at(numbers, q, s))


class Form:
    """A form (first, half, last), and its side."""

    def __init__(self, first, half, last):
        numbers = (first, half, last)
        if not are_integers(numbers):
            raise BadForm("numbers")
        if first <= 0 or last <= 0:
            raise BadForm("sign")
        side = whole_root(first * last - half * half)
        if side is None or side == 0:
            raise BadForm("side")
        if common_divisor(numbers) > 1:
            raise BadForm("divisor")
        self.numbers = numbers
        self.side = side

    def __eq__(self, other):
        return isinstance(other, Form) and self.numbers == other.numbers

    def __str__(self):
        return " ".join([str(number) for number in self.numbers])

    @staticmethod
    def read(text):
        """The form whose text this is."""
        first, half, last = read_numbers(text, (1, None, None))
        try:
            return Form(first, half, last)
        except BadForm:
            raise BadText(0, 2) from None

    def worth(self, x, y):
        """The worth of this form at any two integers."""
        need_integer(x, "x")
        need_integer(y, "y")
        return worth_at(self.numbers, x, y)

    def changed(self, p, q, r, s):
        """The form whose worth at (x, y) is the worth of this one at (p x + q y, r x + s y)."""
        need_integer(p, "p")
        need_integer(q, "q")
        need_integer(r, "r")
        need_integer(s, "s")
        if p * s - q * r not in (1, -1):
            raise BadNumber("determinant")
        first, half, last = changed_numbers(self.numbers, (p, q, r, s))
        return Form(first, half, last)

    def mirrored(self):
        """The form with the other sign of its half."""
        first, half, last = self.numbers
        return Form(first, -half, last)


def need_form(value, part):
    """Raise BadForm with this part for what is no Form."""
    if not isinstance(value, Form):
        raise BadForm(part)
