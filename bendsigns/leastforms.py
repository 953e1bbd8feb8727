"""Least forms: one for all forms that are alike."""

from bendsigns.checks import are_integers
from bendsigns.forms import Form, changed_numbers, need_form
from bendsigns.papers import Denial, Paper, is_named


class LeastForm(Paper):
    """The least form to which a form is alike, and a change of determinant 1 that leads there."""

    def __init__(self, form, change):
        Paper.__init__(self, "leastform", form, change)
        self.form, self.change = self.parts


class AlikeForms(Paper):
    """A change of determinant 1 that leads from one form to another one."""

    def __init__(self, change):
        Paper.__init__(self, "alikeforms", change)
        self.change = self.parts[0]


class UnlikeForms(Denial):
    """The least forms of two forms that are not alike."""

    def __init__(self, form, other_form):
        Denial.__init__(self, "unlikeforms", form, other_form)
        self.form, self.other_form = self.parts


def are_least(numbers):
    """Whether the numbers of a form are those of a least one."""
    first, half, last = numbers
    if not -first < 2 * half <= first <= last:
        return False
    return half >= 0 or first != last


def chained(change, later):
    """The one change that does what two do, one behind the other."""
    p, q, r, s = change
    t, u, v, w = later
    return (p * t + q * v, p * u + q * w, r * t + s * v, r * u + s * w)


def _undoing(change):
    """The change that takes back one of determinant 1."""
    p, q, r, s = change
    return (s, -q, -r, p)


def _lowering(numbers):
    """A change that brings the numbers of a form that is not least nearer to the least ones."""
    first, half, _ = numbers
    times = (first - 2 * half) // (2 * first)
    if times != 0:
        return (1, times, 0, 1)
    return (0, -1, 1, 0)


def least_form(form):
    """The LeastForm of a form."""
    need_form(form, "form")
    numbers, change = form.numbers, (1, 0, 0, 1)
    while not are_least(numbers):
        step = _lowering(numbers)
        numbers = changed_numbers(numbers, step)
        change = chained(change, step)
    return LeastForm(Form(*numbers), change)


def alike_forms(one, other):
    """Whether two forms are alike: the AlikeForms or the UnlikeForms."""
    need_form(one, "one")
    need_form(other, "other")
    mine, theirs = least_form(one), least_form(other)
    if mine.form == theirs.form:
        return AlikeForms(chained(mine.change, _undoing(theirs.change)))
    return UnlikeForms(mine.form, theirs.form)


def _leads(form, change, other):
    """Whether any value is a change of determinant 1 that leads from a form to any other value."""
    if not are_integers(change) or len(change) != 4 or not isinstance(other, Form):
        return False
    p, q, r, s = change
    return p * s - q * r == 1 and changed_numbers(form.numbers, change) == other.numbers


def _is_least_of(form, value):
    """Whether any value is the least form to which a form is alike."""
    return isinstance(value, Form) and value == least_form(form).form


def shows_least_form(form, value):
    """Whether a value is a LeastForm of this form, with any such change."""
    need_form(form, "form")
    if not isinstance(value, LeastForm) or not is_named(value, "LeastForm"):
        return False
    return _leads(form, value.change, value.form) and are_least(value.form.numbers)


def shows_alike_forms(one, other, value):
    """Whether a value is a right AlikeForms or UnlikeForms of these two forms."""
    need_form(one, "one")
    need_form(other, "other")
    if isinstance(value, AlikeForms) and is_named(value, "AlikeForms"):
        return _leads(one, value.change, other)
    if isinstance(value, UnlikeForms) and is_named(value, "UnlikeForms"):
        right = _is_least_of(one, value.form) and _is_least_of(other, value.other_form)
        return right and not value.form == value.other_form
    return False
