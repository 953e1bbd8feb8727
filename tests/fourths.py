"""Fourth signs of the tests' own, told by powers by prime pairs alone."""

import math

from bendsigns.rims import rim_fours
from tests import gauss
from tests.walks import exchanged, sign_near


def own_lead(bends, place, other):
    """A lead of the bend at a place with the one at another place, or one of its kin."""
    near, far = [bends[at] for at in range(4) if at not in (place, other)]
    here, there = bends[place], bends[other]
    return gauss.common((here + there, 0), ((here + there + near - far) // 2, here))


def own_fourth_sign(bends, place, other):
    """The fourth sign as one pair of places tells it."""
    symbol = gauss.by_primes(own_lead(bends, place, other), gauss.prime_factors(bends[place]))
    return {0: 1, 2: -1}[symbol]


def pairs_of(bends):
    """All pairs of places with an odd bend at the first one and no common divisor above 1."""
    return [(place, other) for place in range(4) for other in range(4)
            if place != other and bends[place] % 2 and math.gcd(bends[place], bends[other]) == 1]


def what_is_missing(bends):
    """'kind' or 'sign' for bends that have no fourth sign, otherwise None."""
    if any(bend % 2 and bend % 8 != 1 for bend in bends):
        return "kind"
    return None if sign_near(bends) == 1 else "sign"


def fourth_near(start):
    """The one fourth sign of all pairs in the fours near a least one."""
    signs = set()
    for now in [start] + [exchanged(start, place) for place in range(4)]:
        signs.update(own_fourth_sign(now, place, other) for place, other in pairs_of(now))
    (sign,) = signs
    return sign


def fours_with_fourth_signs(most):
    """The pairs (four, fourth sign) for all rim fours up to a rim that have one."""
    fours = [four for number in range(1, most + 1) for four in rim_fours(number)]
    return tuple((four, fourth_near(four.bends)) for four in fours if what_is_missing(four.bends) is None)
