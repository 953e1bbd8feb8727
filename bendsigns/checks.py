"""What an integer, a place, a word and a name are, and the plain arithmetic that all files share."""

from math import gcd, isqrt

from bendsigns.errors import BadNumber

SMALL_LETTERS = "abcdefghijklmnopqrstuvwxyz"
DIGITS = "0123456789"
MOST_NAME = 12


def is_integer(value):
    """Whether a value is an integer; True and False are none."""
    return isinstance(value, int) and not isinstance(value, bool)


def is_within(value, least, most):
    """Whether a value is an integer from least to most; None stands for no bound."""
    if not is_integer(value):
        return False
    return (least is None or least <= value) and (most is None or value <= most)


def is_place(value):
    """Whether a value is a place of a four."""
    return is_within(value, 0, 3)


def are_integers(value):
    """Whether a value is a list or tuple of integers, perhaps of none."""
    return isinstance(value, (list, tuple)) and all([is_integer(each) for each in value])


def is_word(value):
    """Whether a value is a list or tuple of places, of any length."""
    return isinstance(value, (list, tuple)) and all([is_place(each) for each in value])


def is_name(value):
    """Whether a value is a short string of small letters and digits that begins with a letter."""
    if not isinstance(value, str) or not 1 <= len(value) <= MOST_NAME:
        return False
    if value[0] not in SMALL_LETTERS:
        return False
    return all([letter in SMALL_LETTERS or letter in DIGITS for letter in value])


def rest(number, by):
    """The rest of an integer by one from 1 on, from 0 to one less than by."""
    if not is_integer(number):
        raise BadNumber("number")
    if not is_within(by, 1, None):
        raise BadNumber("by")
    return number % by


def common_divisor(values):
    """The greatest integer that divides all of a list, 0 if all are 0 or there is none."""
    if not are_integers(values):
        raise BadNumber("values")
    divisor = 0
    for value in values:
        divisor = gcd(divisor, value)
    return divisor


def whole_root(number):
    """The integer from 0 on whose square is this integer, None if there is none."""
    if not is_integer(number):
        raise BadNumber("number")
    if number < 0:
        return None
    root = isqrt(number)
    return root if root * root == number else None
