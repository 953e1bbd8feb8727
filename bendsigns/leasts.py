"""Least fours: where the one way down from a four ends, and what they tell of its gasket."""

from bendsigns.checks import is_word
from bendsigns.errors import TooMany
from bendsigns.fours import Four, exchanged_bends, need_four
from bendsigns.needs import MOST_LETTERS
from bendsigns.papers import Denial, Paper, is_named


class Least(Paper):
    """The least four of a gasket, and the rising word that leads from it to a four."""

    def __init__(self, four, letters):
        Paper.__init__(self, "least", four, letters)
        self.four, self.letters = self.parts


class Alike(Paper):
    """The order in which the least four of one gasket is that of another one."""

    def __init__(self, places):
        Paper.__init__(self, "alike", places)
        self.places = self.parts[0]


class Unlike(Denial):
    """The bends of two least fours that are unlike in any order."""

    def __init__(self, bends, other_bends):
        Denial.__init__(self, "unlike", bends, other_bends)
        self.bends, self.other_bends = self.parts


def lowering_place(bends):
    """The one place at which an exchange makes the bend less, None in a least four."""
    total = sum(bends)
    for place, bend in enumerate(bends):
        if 2 * bend > total:
            return place
    return None


def least(four):
    """The Least of the least four of a gasket and the rising word from it to this four."""
    need_four(four, "four")
    bends = four.bends
    letters = []
    place = lowering_place(bends)
    while place is not None:
        if len(letters) == MOST_LETTERS:
            raise TooMany("letters", MOST_LETTERS)
        bends = exchanged_bends(bends, place)
        letters.append(place)
        place = lowering_place(bends)
    return Least(Four(bends), letters[::-1])


def is_flat(least_four):
    """Whether a least four is flat: any other one has a bend below 0."""
    return min(least_four.bends) == 0


def rim(four):
    """The rim of the gasket of a four, 0 for a flat one."""
    return -min(least(four).four.bends)


def least_bends(four):
    """The bends of the least four of a gasket, from the least to the greatest."""
    return tuple(sorted(least(four).four.bends))


def _first_order(bends, wanted):
    """The first order of places in which bends are as wanted; both have the same bends."""
    places = []
    for bend in wanted:
        # Places with equal bends can stand for one another, so the first free one is right.
        free = [place for place in range(4) if bends[place] == bend and place not in places]
        places.append(free[0])
    return places


def alike(one, other):
    """Whether the least fours of two gaskets have the same bends, and in which order."""
    need_four(one, "one")
    need_four(other, "other")
    bends, other_bends = least(one).four.bends, least(other).four.bends
    if sorted(bends) == sorted(other_bends):
        return Alike(_first_order(bends, other_bends))
    return Unlike(sorted(bends), sorted(other_bends))


def shows_least(four, value):
    """Whether a value is the Least of this four."""
    told = least(four)
    if not isinstance(value, Least) or not is_named(value, "Least"):
        return False
    if not isinstance(value.four, Four) or not is_word(value.letters):
        return False
    return value.four == told.four and value.letters == told.letters
