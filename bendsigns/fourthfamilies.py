"""Fourth families: 1, 4, 9 and 36 times the fourth powers, which the fourth sign of a four bars or not."""

from bendsigns.checks import is_within, whole_root
from bendsigns.errors import BadNumber, Misfit
from bendsigns.fourthsigns import fourth_sign
from bendsigns.kinds import kind_of, need_kind
from bendsigns.needs import need_within

FOURTH_FACTORS = (1, 4, 9, 36)


def fourth_need(kind, k):
    """The fourth sign that a kind needs for the fourth family of k."""
    need_kind(kind, "kind")
    if not is_within(k, 1, 36) or k not in FOURTH_FACTORS:
        raise BadNumber("k")
    if kind.odd != 1:
        raise Misfit("kind")
    return -1 if k % 9 == 0 and kind.third == 2 else 1


def _fourth_root(number):
    """The integer from 0 on whose fourth power a number from 1 on is, None if there is none."""
    root = whole_root(number)
    return None if root is None else whole_root(root)


def fourth_family_of(number):
    """The (k, root) of the fourth family that an integer from 1 on is in, None if it is in none."""
    need_within(number, 1, None, "number")
    for k in FOURTH_FACTORS:
        root = _fourth_root(number // k) if number % k == 0 else None
        if root is not None:
            return (k, root)
    return None


def fourth_families(four):
    """All k whose fourth families are barred in a four, ascending."""
    value = fourth_sign(four).value
    kind = kind_of(four)
    return tuple([k for k in FOURTH_FACTORS if fourth_need(kind, k) != value])


def fourths_barred(four):
    """What `fourth_families` tells; a four without a fourth sign bars none."""
    try:
        return fourth_families(four)
    except Misfit:
        return ()
