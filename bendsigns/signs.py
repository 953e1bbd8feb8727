"""Signs: one for all circles of a gasket, told by any two of them that touch and are coprime."""

from math import gcd

from bendsigns.errors import Misfit
from bendsigns.fans import first_coprime
from bendsigns.fours import need_four
from bendsigns.needs import need_integer
from bendsigns.papers import Paper
from bendsigns.pedigrees import pedigree
from bendsigns.symbols import symbol


class Sign(Paper):
    """The sign of a four, the word to a circle, and the places of a coprime pair there."""

    def __init__(self, value, letters, place, at):
        Paper.__init__(self, "sign", value, letters, place, at)
        self.value, self.letters, self.place, self.at = self.parts


def pair_sign(one, other):
    """The sign of a pair of coprime integers."""
    need_integer(one, "one")
    need_integer(other, "other")
    if gcd(one, other) != 1:
        raise Misfit("divisor")
    number, odd = (one, other) if other % 2 == 1 else (other, one)
    # An odd integer leaves 1 or 3 by 4, also one below 0.
    return symbol(number if odd % 4 == 1 else 2 * number, abs(odd))


def sign(four):
    """The Sign of a four."""
    need_four(four, "four")
    place = [at for at in range(4) if four.bends[at] != 0][0]
    here = four.bends[place]
    letters, at, bend = first_coprime(four, place, (place + 1) % 4, here)
    return Sign(pair_sign(here, bend), letters, place, at)


def turn_sign(bend):
    """1 if a gasket keeps its sign when it is turned at a circle of this bend, otherwise -1."""
    need_integer(bend, "bend")
    return 1 if bend % 8 in (0, 1, 4, 7) else -1


def pedigree_sign(four):
    """The product of the turn signs of all rims of the pedigree of a four."""
    value = 1
    for bend in pedigree(four).rims:
        value *= turn_sign(bend)
    return value
