"""Checking the papers of symbols, of circles between, and of signs."""

from math import gcd

from bendsigns.checks import is_place, is_word
from bendsigns.fans import Between, need_circles, places_beside
from bendsigns.fours import bends_after, need_four
from bendsigns.papers import is_just, is_named
from bendsigns.signs import Sign, pair_sign
from bendsigns.symbols import Steps, steps_of


def shows_steps(number, by, value):
    """Whether a value is the Steps of an integer by an odd one above 0."""
    told = steps_of(number, by)
    if not isinstance(value, Steps) or not is_named(value, "Steps"):
        return False
    return is_just(value.rows, told.rows) and is_just(value.value, told.value)


def shows_between(four, place, other, value):
    """Whether a value is a Between of any circle that touches both circles and is coprime to both."""
    need_circles(four, place, other)
    if not isinstance(value, Between) or not is_named(value, "Between"):
        return False
    if not is_word(value.letters) or not is_place(value.at):
        return False
    beside = places_beside(place, other)
    if value.at not in beside or any([letter not in beside for letter in value.letters]):
        return False
    bends = bends_after(four.bends, value.letters)
    return gcd(bends[value.at], bends[place] * bends[other]) == 1


def shows_sign(four, value):
    """Whether a value is a Sign of any coprime pair behind any word from this four."""
    need_four(four, "four")
    if not isinstance(value, Sign) or not is_named(value, "Sign"):
        return False
    if not is_word(value.letters) or not is_place(value.place) or not is_place(value.at):
        return False
    bends = bends_after(four.bends, value.letters)
    one, other = bends[value.place], bends[value.at]
    if value.place == value.at or gcd(one, other) != 1:
        return False
    return is_just(value.value, pair_sign(one, other))
