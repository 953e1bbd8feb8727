"""Checking the papers of what touches a circle."""

from bendsigns.around import form_at
from bendsigns.checks import is_integer
from bendsigns.forms import Form
from bendsigns.leastforms import least_form
from bendsigns.papers import is_named
from bendsigns.touching import Touching, Untouched, forms_of_worth, is_told_pair, needed_worth


def _is_pair_of_worth(form, x, y, worth):
    """Whether any two values are a told pair at which a form has this worth."""
    if not is_integer(x) or not is_integer(y):
        return False
    return is_told_pair(x, y) and form.worth(x, y) == worth


def _are_all_forms(form, value, worth):
    """Whether any value is all least forms that have this worth, and the one of a form is none."""
    if not isinstance(value, tuple) or not all([isinstance(each, Form) for each in value]):
        return False
    return value == forms_of_worth(form.side, worth) and least_form(form).form not in value


def shows_touches(four, place, number, value):
    """Whether a value is a right Touching or Untouched of this number."""
    worth = needed_worth(four, place, number)
    form = form_at(four, place)
    if isinstance(value, Touching) and is_named(value, "Touching"):
        return _is_pair_of_worth(form, value.x, value.y, worth)
    if isinstance(value, Untouched) and is_named(value, "Untouched"):
        return _are_all_forms(form, value.forms, worth)
    return False
