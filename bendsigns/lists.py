"""The list of all circles of a gasket up to a bend."""

from bendsigns.errors import Flat
from bendsigns.fours import exchanged_bends, need_four
from bendsigns.leasts import is_flat, least
from bendsigns.needs import need_within

MOST_LISTED = 300


def _further(level, most):
    """The pairs (bends, word) one letter behind those of a level, no letter right behind itself, up to a bend."""
    found = []
    for bends, word in level:
        for place in range(4):
            then = exchanged_bends(bends, place)
            if word[-1:] != (place,) and then[place] <= most:
                found.append((then, word + (place,)))
    return found


def circles(four, most):
    """(bend, letters, place) for all circles of the gasket of a four up to a bend, as they rise."""
    need_four(four, "four")
    need_within(most, 1, MOST_LISTED, "most")
    start = least(four).four
    if is_flat(start):
        raise Flat()
    found = [(bend, (), place) for place, bend in enumerate(start.bends) if bend <= most]
    # What a letter brings has the greatest bend of its four, so nothing up to the bend is behind what is beyond.
    level = _further([(start.bends, ())], most)
    while level:
        found.extend([(bends[word[-1]], word, word[-1]) for bends, word in level])
        level = _further(level, most)
    # Words come in their order here, and sorting keeps the order of circles with equal bends.
    return tuple(sorted(found, key=lambda row: row[0]))
