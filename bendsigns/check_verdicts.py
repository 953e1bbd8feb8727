"""Checking the papers of verdicts."""

from bendsigns.checks import is_integer, is_place, is_within, is_word
from bendsigns.families import families
from bendsigns.fourthfamilies import fourths_barred
from bendsigns.fours import bends_after, need_four
from bendsigns.kinds import kind_of
from bendsigns.leasts import least
from bendsigns.lists import MOST_LISTED, circles
from bendsigns.needs import need_within
from bendsigns.papers import is_just, is_named
from bendsigns.verdicts import ByFourth, ByList, ByRest, BySign, Comes
from bendsigns.words import runs


def _is_circle(four, letters, place, number):
    """Whether any two values are a circle of the gasket of a four, with this bend."""
    if not is_word(letters) or not is_place(place) or not runs(letters):
        return False
    if letters and place != letters[-1]:
        return False
    return bends_after(least(four).four.bends, letters)[place] == number


def _is_rest(four, value, number):
    """Whether any value is the rest of a number by 24, and none of the kind of a four."""
    return is_just(value, number % 24) and value not in kind_of(four).rests


def _are_barred(k, root, ks, number, power):
    """Whether any two values are one of ks and a root from 1 on, and tell a number by this power of the root."""
    if not is_integer(k) or k not in ks or not is_within(root, 1, None):
        return False
    told = k
    for _ in range(power):
        told *= root
    return told == number


def _is_many(listed, value, number):
    """Whether any value is how many circles a list up to a number has, and none of them has this bend."""
    return is_just(value, len(listed)) and all([bend != number for bend, _, _ in listed])


def _shows_denial(four, number, value, listed):
    """Whether any value is a right denial of a number; listed are all circles up to it."""
    if isinstance(value, ByRest) and is_named(value, "ByRest"):
        return _is_rest(four, value.rest, number)
    if isinstance(value, BySign) and is_named(value, "BySign"):
        return _are_barred(value.k, value.root, families(four), number, 2)
    if isinstance(value, ByFourth) and is_named(value, "ByFourth"):
        return _are_barred(value.k, value.root, fourths_barred(four), number, 4)
    if isinstance(value, ByList) and is_named(value, "ByList"):
        return _is_many(listed, value.many, number)
    return False


def shows_verdict(four, number, value):
    """Whether a value is a Comes of any circle with this bend, or a denial with any reason that holds."""
    need_four(four, "four")
    need_within(number, 1, MOST_LISTED, "number")
    # What the list raises is raised here, too, whatever the value is.
    listed = circles(four, number)
    if isinstance(value, Comes) and is_named(value, "Comes"):
        return _is_circle(four, value.letters, value.place, number)
    return _shows_denial(four, number, value, listed)
