"""Leads: what two circles of a four have in common as pairs."""

from math import gcd

from bendsigns.errors import Misfit
from bendsigns.fans import places_beside
from bendsigns.fours import need_four
from bendsigns.needs import need_unlike_places
from bendsigns.pairs import Pair


def lead(four, place, other):
    """The lead of the bend at a place with the bend at another one."""
    need_four(four, "four")
    need_unlike_places(place, other)
    here, there = four.bends[place], four.bends[other]
    if here % 2 == 0:
        raise Misfit("odd")
    if gcd(here, there) != 1:
        raise Misfit("divisor")
    near, far = [four.bends[at] for at in places_beside(place, other)]
    return Pair(here + there, 0).common(Pair((here + there + near - far) // 2, here))
