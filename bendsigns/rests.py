"""Rows: what the four bends of a four leave by a modulus, and which rows come behind words."""

from bendsigns.checks import are_integers, is_within
from bendsigns.errors import BadNumber
from bendsigns.fours import exchanged_bends, need_four
from bendsigns.papers import Denial, Paper

MODULI = (2, 3, 4, 5, 6, 7, 8, 9, 10, 11, 12, 13, 24)
POWERS = (2, 3, 4, 5, 7, 8, 9, 11, 13)


class Met(Paper):
    """A word behind which a four has a row."""

    def __init__(self, letters):
        Paper.__init__(self, "met", letters)
        self.letters = self.parts[0]


class Unmet(Denial):
    """A pillar of the modulus by which the rests of a row do not come."""

    def __init__(self, by):
        Denial.__init__(self, "unmet", by)
        self.by = self.parts[0]


def need_modulus(value):
    """Raise BadNumber for what is no modulus of rows."""
    if not is_within(value, 2, 24) or value not in MODULI:
        raise BadNumber("modulus")


def need_row(value, modulus):
    """Raise BadNumber for what is no row by a modulus, whether it comes or not."""
    if not are_integers(value) or len(value) != 4:
        raise BadNumber("row")
    if any([not 0 <= each < modulus for each in value]):
        raise BadNumber("row")


def row_of(numbers, modulus):
    """The row of four integers by a modulus."""
    return tuple([number % modulus for number in numbers])


def exchanged_row(row, place, modulus):
    """The row behind an exchange, told by the row ahead of it."""
    return row_of(exchanged_bends(row, place), modulus)


def _is_greatest(power, powers):
    """Whether a power of a prime is the greatest one of its prime among powers."""
    return not any([other > power and other % power == 0 for other in powers])


def pillars(modulus):
    """The greatest powers of primes that divide a modulus, ascending."""
    divisors = [power for power in POWERS if modulus % power == 0]
    return [power for power in divisors if _is_greatest(power, divisors)]


def _first_words(start, modulus):
    """All rows that come from a row, in the order of the first words that lead to them, with these words."""
    found = {start: ()}
    level = [start]
    while level:
        further = []
        for row in level:
            for place in range(4):
                then = exchanged_row(row, place, modulus)
                if then not in found:
                    found[then] = found[row] + (place,)
                    further.append(then)
        level = further
    return found


def comes(four, modulus, row):
    """Whether what a row leaves by a modulus comes from a four."""
    return row_of(row, modulus) in _first_words(row_of(four.bends, modulus), modulus)


def fours_by(four, modulus):
    """All rows by a modulus that come from a four, ascending."""
    need_four(four, "four")
    need_modulus(modulus)
    return tuple(sorted(_first_words(row_of(four.bends, modulus), modulus)))


def rests(four, modulus):
    """All rests in the rows that come from a four, ascending."""
    rows = fours_by(four, modulus)
    return tuple(sorted(set([each for row in rows for each in row])))


def _many_by_pillar(pillar):
    """How many rows come by a pillar."""
    if pillar in (2, 4):
        return 1
    if pillar == 8:
        return 4
    if pillar in (3, 9):
        return 10 if pillar == 3 else 270
    # By a prime above 3 each row that solves the equation comes, but for the one of four 0s.
    square = pillar * pillar
    if pillar % 4 == 1:
        return (square - 1) * (pillar + 1)
    return (square + 1) * (pillar - 1)


def many_fours(modulus):
    """How many rows by a modulus come, from whatever four."""
    need_modulus(modulus)
    many = 1
    for pillar in pillars(modulus):
        many *= _many_by_pillar(pillar)
    return many


def met(four, modulus, row):
    """The Met of the first word to a row, or the Unmet of the first pillar that bars it."""
    need_four(four, "four")
    need_modulus(modulus)
    need_row(row, modulus)
    words = _first_words(row_of(four.bends, modulus), modulus)
    if tuple(row) in words:
        return Met(words[tuple(row)])
    # A row comes by the modulus if its rests come by each pillar, so one of them bars it.
    return Unmet([pillar for pillar in pillars(modulus) if not comes(four, pillar, row)][0])
