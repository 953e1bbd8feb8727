"""Fans: the circles that touch two circles of a four, one behind the other."""

from math import gcd

from bendsigns.errors import Flat
from bendsigns.fours import exchanged_bends, need_four
from bendsigns.needs import need_unlike_places
from bendsigns.papers import Paper


class Between(Paper):
    """The word to a circle that touches two others and is coprime to both, and its place."""

    def __init__(self, letters, at):
        Paper.__init__(self, "between", letters, at)
        self.letters, self.at = self.parts


def places_beside(place, other):
    """The two other places, the lesser one first."""
    return tuple([at for at in range(4) if at not in (place, other)])


def fan(four, place, other):
    """Yield (letters, at, bend) for each circle of the fan of two places, without end."""
    need_four(four, "four")
    need_unlike_places(place, other)
    at, later = places_beside(place, other)
    bends, letters = four.bends, ()
    yield letters, at, bends[at]
    yield letters, later, bends[later]
    while True:
        bends = exchanged_bends(bends, at)
        letters = letters + (at,)
        yield letters, at, bends[at]
        at, later = later, at


def first_coprime(four, place, other, number):
    """The (letters, at, bend) of the first circle of a fan whose bend is coprime to a number.

    There is one soon if the number is made of the two bends and is not 0: each prime of it bars one circle
    in a prime's number of them at most, and 2 one place at most.
    """
    for letters, at, bend in fan(four, place, other):
        if gcd(bend, number) == 1:
            return (letters, at, bend)


def need_circles(four, place, other):
    """Raise what is wrong with two places of a four, Flat if a line stands at one."""
    need_four(four, "four")
    need_unlike_places(place, other)
    if four.bends[place] == 0 or four.bends[other] == 0:
        raise Flat()


def between(four, place, other):
    """The Between of the first circle of a fan whose bend is coprime to both bends."""
    need_circles(four, place, other)
    letters, at, _ = first_coprime(four, place, other, four.bends[place] * four.bends[other])
    return Between(letters, at)
