"""Fours: the bends of four circles that touch one another."""

from bendsigns.checks import are_integers, common_divisor, is_word
from bendsigns.errors import BadFour, BadText, BadWord
from bendsigns.needs import need_few_letters, need_place, need_word
from bendsigns.texts import read_numbers


def exchanged_bends(bends, place):
    """The bends of a four, exchanged at a place."""
    changed = list(bends)
    changed[place] = 2 * sum(bends) - 3 * bends[place]
    return tuple(changed)


def bends_after(bends, word):
    """The bends of a four at the end of a word, of whatever length."""
    for place in word:
        bends = exchanged_bends(bends, place)
    return bends


class Four:
    """Four bends, one at each place, and their total."""

    def __init__(self, bends):
        if not are_integers(bends) or len(bends) != 4:
            raise BadFour("bends")
        total = sum(bends)
        if 2 * sum([bend * bend for bend in bends]) != total * total:
            raise BadFour("touch")
        if total <= 0:
            raise BadFour("sum")
        if common_divisor(bends) > 1:
            raise BadFour("divisor")
        self.bends = tuple(bends)
        self.total = total

    def __eq__(self, other):
        return isinstance(other, Four) and self.bends == other.bends

    def __str__(self):
        return " ".join([str(bend) for bend in self.bends])

    @staticmethod
    def read(text):
        """The four whose text this is."""
        bends = read_numbers(text, (None, None, None, None))
        try:
            return Four(bends)
        except BadFour:
            raise BadText(0, 3) from None

    def exchanged(self, place):
        """This four, exchanged at a place."""
        need_place(place)
        return Four(exchanged_bends(self.bends, place))

    def after(self, word):
        """The four at the end of a word."""
        need_word(word, "word")
        need_few_letters(word)
        return Four(bends_after(self.bends, word))

    def in_order(self, places):
        """The four that has at place k the bend at places[k]."""
        if not is_word(places) or sorted(places) != [0, 1, 2, 3]:
            raise BadWord("places")
        return Four([self.bends[place] for place in places])


def need_four(value, part):
    """Raise BadFour with this part for what is no Four."""
    if not isinstance(value, Four):
        raise BadFour(part)
