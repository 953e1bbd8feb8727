"""Families: 1, 2, 3 and 6 times the squares, which the sign of a four bars or not."""

from bendsigns.checks import is_within, whole_root
from bendsigns.errors import BadNumber
from bendsigns.fours import need_four
from bendsigns.kinds import kind_of, need_kind
from bendsigns.lists import circles
from bendsigns.needs import need_within
from bendsigns.signs import sign

FACTORS = (1, 2, 3, 6)
# For each odd what a kind with third 1 needs for the families of 1, 2, 3 and 6.
NEEDED = {1: (1, 1, 1, 1), 5: (1, -1, 1, -1), 3: (0, 1, -1, -1)}


def need_factor(value):
    """Raise BadNumber for what is no k of a family."""
    if not is_within(value, 1, 6) or value not in FACTORS:
        raise BadNumber("k")


def need(kind, k):
    """What a kind needs for the family of k: the sign 1 or -1, or 0, which no sign is."""
    need_kind(kind, "kind")
    need_factor(k)
    needed = NEEDED[kind.odd][FACTORS.index(k)]
    # The symbol of 3 is told by what bends leave by 3.
    return -needed if kind.third == 2 and k % 3 == 0 else needed


def family_of(number):
    """The (k, root) of the family that an integer from 1 on is in, None if it is in none."""
    need_within(number, 1, None, "number")
    for k in FACTORS:
        root = whole_root(number // k) if number % k == 0 else None
        if root is not None:
            return (k, root)
    return None


def families(four):
    """All k whose families are barred in a four, ascending."""
    need_four(four, "four")
    kind, value = kind_of(four), sign(four).value
    return tuple([k for k in FACTORS if need(kind, k) != value])


def first_member(four, k, most):
    """The (letters, place, root) of the first circle up to a bend that is in the family of k, None if there is none."""
    need_four(four, "four")
    need_factor(k)
    for bend, letters, place in circles(four, most):
        found = family_of(bend) if bend > 0 else None
        if found is not None and found[0] == k:
            return (letters, place, found[1])
    return None
