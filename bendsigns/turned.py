"""Fours that are turned inside out at one of their circles."""

from bendsigns.fours import Four, exchanged_bends, need_four
from bendsigns.leasts import least, least_bends
from bendsigns.needs import need_place, need_within

MOST_TURNED = 60


def turned_bends(bends, place):
    """The bends of a four, turned at a place."""
    gain = 2 * bends[place]
    return tuple([-bend if at == place else bend + gain for at, bend in enumerate(bends)])


def turned(four, place):
    """A four, turned at a place."""
    need_four(four, "four")
    need_place(place)
    return Four(turned_bends(four.bends, place))


def _standing(start, wanted):
    """The pairs (bends, place): in each circle's first four, from a least one on, where a bend stands."""
    found = [(start, place) for place in range(4) if start[place] == wanted]
    left = [start]
    while left:
        bends = left.pop()
        for place in range(4):
            then = exchanged_bends(bends, place)
            # An exchange that keeps a bend leads to fours with the same bends once more;
            # behind one that makes greater all others do, so what is beyond the bend leads nowhere.
            if bends[place] < then[place] < wanted:
                left.append(then)
            if bends[place] < then[place] == wanted:
                found.append((then, place))
    return found


def turned_out(four, bend):
    """The least bends of all gaskets that come of turning a gasket where this bend stands."""
    need_four(four, "four")
    need_within(bend, 1, MOST_TURNED, "bend")
    start = least(four).four.bends
    # Fours round one circle come from one another by exchanges beside it, which a turning lets through.
    fours = [Four(turned_bends(bends, place)) for bends, place in _standing(start, bend)]
    return tuple(sorted(set([least_bends(each) for each in fours])))
