"""Squares among forms: their roots, or the local signs that bar one."""

from bendsigns.checks import is_integer
from bendsigns.forms import Form, need_form
from bendsigns.leastforms import are_least, least_form
from bendsigns.localsigns import local_signs
from bendsigns.needs import need_few
from bendsigns.papers import Denial, Paper, is_named
from bendsigns.products import product
from bendsigns.rims import MOST_SIDE, least_forms


class RootOf(Paper):
    """A form whose product with itself is alike to a form."""

    def __init__(self, form):
        Paper.__init__(self, "rootof", form)
        self.form = self.parts[0]


class NoRoot(Denial):
    """A number by which the local sign of a form is -1, as no square's is."""

    def __init__(self, by):
        Denial.__init__(self, "noroot", by)
        self.by = self.parts[0]


def _all_least_forms(side):
    """All least forms of a side, those with a half below 0, too, ascending by their numbers."""
    forms = list(least_forms(side))
    mirrored = [form.mirrored() for form in forms if form.numbers[1] > 0]
    forms.extend([form for form in mirrored if are_least(form.numbers)])
    return sorted(forms, key=lambda form: form.numbers)


def _barring(form):
    """All numbers by which the local sign of a form is -1."""
    return [by for by, sign in local_signs(form) if sign == -1]


def _need_form_to_root(form):
    """Raise what is wrong with a form whose root is asked for."""
    need_form(form, "form")
    need_few(form.side, "side", MOST_SIDE)


def square_root_of(form):
    """The RootOf of the first root of a form, or the NoRoot of the first number that bars one."""
    _need_form_to_root(form)
    barring = _barring(form)
    if barring:
        return NoRoot(barring[0])
    wanted = least_form(form).form
    # A form whose local signs are all 1 has a root (Gauss).
    return RootOf([each for each in _all_least_forms(form.side) if product(each, each) == wanted][0])


def shows_root(form, value):
    """Whether a value is a RootOf of any root of this form, or a NoRoot of any number that bars one."""
    _need_form_to_root(form)
    if isinstance(value, RootOf) and is_named(value, "RootOf"):
        root = value.form
        if not isinstance(root, Form) or root.side != form.side:
            return False
        return product(root, root) == least_form(form).form
    if isinstance(value, NoRoot) and is_named(value, "NoRoot"):
        return is_integer(value.by) and value.by in _barring(form)
    return False
