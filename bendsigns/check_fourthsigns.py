"""Checking the papers of fourth signs."""

from math import gcd

from bendsigns.checks import is_place, is_word
from bendsigns.fours import bends_after
from bendsigns.fourthsigns import FourthSign, fourth_sign
from bendsigns.papers import is_just, is_named


def shows_fourth_sign(four, value):
    """Whether a value is a FourthSign of any odd circle and a coprime one behind any word from this four."""
    told = fourth_sign(four)
    if not isinstance(value, FourthSign) or not is_named(value, "FourthSign"):
        return False
    if not is_word(value.letters) or not is_place(value.place) or not is_place(value.at):
        return False
    bends = bends_after(four.bends, value.letters)
    here, there = bends[value.place], bends[value.at]
    if value.place == value.at or here % 2 == 0 or gcd(here, there) != 1:
        return False
    # All fours of a gasket have one fourth sign, so the pair that is told need not tell it once more.
    return is_just(value.value, told.value)
