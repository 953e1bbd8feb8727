"""Kinds: what the bends of a gasket leave by 24."""

from bendsigns.checks import is_within
from bendsigns.errors import BadKind, BadNumber
from bendsigns.fours import need_four
from bendsigns.texts import read_choices

RESTS = {
    (1, 1): (0, 1, 4, 9, 12, 16),
    (1, 2): (0, 8, 9, 12, 17, 20),
    (5, 1): (0, 4, 12, 13, 16, 21),
    (5, 2): (0, 5, 8, 12, 20, 21),
    (3, 1): (3, 6, 7, 10, 15, 18, 19, 22),
    (3, 2): (2, 3, 6, 11, 14, 15, 18, 23),
}


class Kind:
    """A kind of fours, and the rests by 24 that their bends leave."""

    def __init__(self, odd, third):
        if not is_within(odd, 1, 5) or odd % 2 == 0:
            raise BadNumber("odd")
        if not is_within(third, 1, 2):
            raise BadNumber("third")
        self.odd = odd
        self.third = third
        self.rests = RESTS[(odd, third)]

    def __eq__(self, other):
        return isinstance(other, Kind) and self.odd == other.odd and self.third == other.third

    def __str__(self):
        return " ".join([str(self.odd), str(self.third)])

    @staticmethod
    def read(text):
        """The kind whose text this is."""
        odd, third = read_choices(text, (("1", "3", "5"), ("1", "2")))
        return Kind(int(odd), int(third))


def need_kind(value, part):
    """Raise BadKind with this part for what is no Kind."""
    if not isinstance(value, Kind):
        raise BadKind(part)


def kind_of(four):
    """The kind of a four."""
    need_four(four, "four")
    odd = [bend % 8 for bend in four.bends if bend % 2 == 1]
    third = [bend % 3 for bend in four.bends if bend % 3 != 0]
    # Of two odd bends both leave 1, or both 5, or one 3 and the other 7.
    return Kind(min(odd), third[0])
