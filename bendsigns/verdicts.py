"""Verdicts: whether an integer comes in a gasket, or what bars it."""

from bendsigns.families import families, family_of
from bendsigns.fourthfamilies import fourth_family_of, fourths_barred
from bendsigns.fours import need_four
from bendsigns.kinds import kind_of
from bendsigns.lists import MOST_LISTED, circles
from bendsigns.needs import need_within
from bendsigns.papers import Denial, Paper


class Comes(Paper):
    """The circle of a gasket that has an integer for its bend."""

    def __init__(self, letters, place):
        Paper.__init__(self, "comes", letters, place)
        self.letters, self.place = self.parts


class ByRest(Denial):
    """The rest by 24, which is none of the kind."""

    def __init__(self, rest):
        Denial.__init__(self, "byrest", rest)
        self.rest = self.parts[0]


class BySign(Denial):
    """The family that the sign bars, and the root of an integer in it."""

    def __init__(self, k, root):
        Denial.__init__(self, "bysign", k, root)
        self.k, self.root = self.parts


class ByFourth(Denial):
    """The fourth family that the fourth sign bars, and the root of an integer in it."""

    def __init__(self, k, root):
        Denial.__init__(self, "byfourth", k, root)
        self.k, self.root = self.parts


class ByList(Denial):
    """How many circles have bends that are not above an integer, none of them this bend."""

    def __init__(self, many):
        Denial.__init__(self, "bylist", many)
        self.many = self.parts[0]


def barred(four, number):
    """The ByRest, the BySign or the ByFourth of an integer from 1 on, None if none of the three holds."""
    need_four(four, "four")
    need_within(number, 1, None, "number")
    if number % 24 not in kind_of(four).rests:
        return ByRest(number % 24)
    found = family_of(number)
    if found is not None and found[0] in families(four):
        return BySign(found[0], found[1])
    found = fourth_family_of(number)
    if found is not None and found[0] in fourths_barred(four):
        return ByFourth(found[0], found[1])
    return None


def verdict(four, number):
    """The Comes of the first circle that has an integer for its bend, or the denial of what bars it first."""
    need_four(four, "four")
    need_within(number, 1, MOST_LISTED, "number")
    listed = circles(four, number)
    found = [(letters, place) for bend, letters, place in listed if bend == number]
    if found:
        return Comes(found[0][0], found[0][1])
    denial = barred(four, number)
    return ByList(len(listed)) if denial is None else denial
