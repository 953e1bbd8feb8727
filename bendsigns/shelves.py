"""Shelves: what a desk keeps, fours under names."""

from bendsigns.checks import is_name
from bendsigns.errors import BadDesk, NoName, Twice
from bendsigns.fours import Four


def _is_pair(value):
    """Whether any value is a pair of a name and a Four."""
    if not isinstance(value, (list, tuple)) or len(value) != 2:
        return False
    return is_name(value[0]) and isinstance(value[1], Four)


def _need_pairs(value):
    """Raise BadDesk for what is no list of pairs of a name and a Four, Twice for a name that stands ahead."""
    if not isinstance(value, (list, tuple)) or not all([_is_pair(each) for each in value]):
        raise BadDesk("fours")
    ahead = {}
    for name, _ in value:
        if name in ahead:
            raise Twice(name)
        ahead[name] = True


class Shelf:
    """Pairs of a name and a Four, in the order in which they were put there."""

    def __init__(self, fours=()):
        _need_pairs(fours)
        self.fours = tuple([(name, four) for name, four in fours])
        self.names = tuple([name for name, _ in fours])

    def __eq__(self, other):
        return isinstance(other, Shelf) and self.fours == other.fours

    def kept(self, name):
        """The four of a name."""
        if not isinstance(name, str) or name not in self.names:
            raise NoName(name)
        return self.fours[self.names.index(name)][1]


def need_shelf(value, part):
    """Raise BadDesk with this part for what is no Shelf."""
    if not isinstance(value, Shelf):
        raise BadDesk(part)


def _made(fours, names):
    """The Shelf of pairs and their names that are known to be right.

    Each deed makes a shelf, and looking at all pairs again would be slow where many are kept.
    """
    shelf = Shelf()
    shelf.fours = fours
    shelf.names = names
    return shelf


def with_four(shelf, name, four):
    """A shelf with one more four, or with another one in the place of that of this name."""
    if name not in shelf.names:
        return _made(shelf.fours + ((name, four),), shelf.names + (name,))
    at = shelf.names.index(name)
    return _made(shelf.fours[:at] + ((name, four),) + shelf.fours[at + 1:], shelf.names)


def without(shelf, name):
    """A shelf without the four of a name that is kept."""
    at = shelf.names.index(name)
    return _made(shelf.fours[:at] + shelf.fours[at + 1:], shelf.names[:at] + shelf.names[at + 1:])
