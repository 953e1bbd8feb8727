"""What many functions ask of the numbers, places and words that they are passed."""

from bendsigns.checks import is_integer, is_place, is_within, is_word
from bendsigns.errors import BadNumber, BadWord, NoPlace, TooMany, Twice

MOST_LETTERS = 200


def need_integer(value, part):
    """Raise BadNumber with this part for what is no integer."""
    if not is_integer(value):
        raise BadNumber(part)


def need_within(value, least, most, part):
    """Raise BadNumber with this part for what is no integer from least to most."""
    if not is_within(value, least, most):
        raise BadNumber(part)


def need_place(value):
    """Raise NoPlace for what is no place."""
    if not is_place(value):
        raise NoPlace(value)


def need_unlike_places(place, other):
    """Raise NoPlace for what is no place, Twice for the same place once more."""
    need_place(place)
    need_place(other)
    if place == other:
        raise Twice(other)


def need_word(value, part):
    """Raise BadWord with this part for what is no word, of whatever length."""
    if not is_word(value):
        raise BadWord(part)


def need_few_letters(word):
    """Raise TooMany for a word that is too long. It comes behind the errors of all parameters."""
    if len(word) > MOST_LETTERS:
        raise TooMany("letters", MOST_LETTERS)


def need_few(many, what, most):
    """Raise TooMany for more of something than most."""
    if many > most:
        raise TooMany(what, most)
