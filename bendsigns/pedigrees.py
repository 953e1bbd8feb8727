"""Pedigrees: the turnings that lead from a flat gasket to a four."""

from bendsigns.checks import is_place, is_word
from bendsigns.errors import BadWord, TooMany
from bendsigns.fours import Four, bends_after, need_four
from bendsigns.leasts import is_flat, least, rim
from bendsigns.needs import need_few_letters
from bendsigns.papers import Paper, is_just, is_named
from bendsigns.turned import turned, turned_bends

MOST_TURNINGS = 100


class Pedigree(Paper):
    """The rims on the way down from a four, the flat four at its end, and the steps back."""

    def __init__(self, rims, base, steps):
        Paper.__init__(self, "pedigree", rims, base, steps)
        self.rims, self.base, self.steps = self.parts


def pedigree(four):
    """The Pedigree of a four."""
    need_four(four, "four")
    base, rims, steps = four, [], []
    told = least(base)
    while not is_flat(told.four):
        if len(rims) == MOST_TURNINGS:
            raise TooMany("turnings", MOST_TURNINGS)
        lowest = min(told.four.bends)
        place = told.four.bends.index(lowest)
        rims.append(-lowest)
        steps.append((place, told.letters))
        base = turned(told.four, place)
        told = least(base)
    return Pedigree(rims, base, steps[::-1])


def _is_step(value):
    """Whether any value is a pair of a place and a word."""
    if not isinstance(value, (list, tuple)) or len(value) != 2:
        return False
    return is_place(value[0]) and is_word(value[1])


def _are_steps(value):
    """Whether any value is a list of steps."""
    return isinstance(value, (list, tuple)) and all([_is_step(each) for each in value])


def _gone(bends, steps):
    """The bends at the end of steps, and the bends at which the steps turned."""
    turns = []
    for place, word in steps:
        turns.append(bends[place])
        bends = bends_after(turned_bends(bends, place), word)
    return bends, turns


def built(base, steps):
    """The four to which steps lead from any four."""
    need_four(base, "base")
    if not _are_steps(steps):
        raise BadWord("steps")
    if len(steps) > MOST_TURNINGS:
        raise TooMany("turnings", MOST_TURNINGS)
    for _, word in steps:
        need_few_letters(word)
    bends, _ = _gone(base.bends, steps)
    return Four(bends)


def _is_near_flat(value):
    """Whether any value is a four of a flat gasket, not too far from a flat four."""
    if not isinstance(value, Four):
        return False
    try:
        return rim(value) == 0
    except TooMany:
        return False


def shows_pedigree(four, value):
    """Whether a value is a right Pedigree of this four, whatever its words are."""
    # What this raises is raised here, too, whatever the value is.
    pedigree(four)
    if not isinstance(value, Pedigree) or not is_named(value, "Pedigree"):
        return False
    if not _is_near_flat(value.base) or not _are_steps(value.steps):
        return False
    bends, turns = _gone(value.base.bends, value.steps)
    if bends != four.bends or any([bend <= 0 for bend in turns]):
        return False
    return is_just(value.rims, tuple(turns[::-1]))
