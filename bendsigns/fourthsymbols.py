"""The fourth symbol of a pair by an odd one, and steps that tell it."""

from bendsigns.checks import are_integers
from bendsigns.errors import BadPair
from bendsigns.pairs import Pair, need_pair
from bendsigns.papers import Paper, is_just, is_named


class FourthSteps(Paper):
    """The rows (rest, by, times, power, left, change) of steps, and the symbol or None."""

    def __init__(self, rows, value):
        Paper.__init__(self, "fourthsteps", rows, value)
        self.rows, self.value = self.parts


def _need_both(number, by):
    """Raise BadPair for what is no Pair, and for an even pair by which there is no symbol."""
    need_pair(number, "number")
    need_pair(by, "by")
    if by.norm % 2 == 0:
        raise BadPair("by")


def _change(by, times, power, left):
    """What a step adds to the symbol by a primary pair."""
    quarter, left_quarter = (by.norm - 1) // 4, (left.norm - 1) // 4
    change = times * ((by.one - by.other - by.other * by.other - 1) // 4) + power * quarter
    if quarter % 2 == 1 and left_quarter % 2 == 1:
        change += 2
    return change % 4


def _step(over, by):
    """The row of a rest by a primary pair, and the primary pair that is left."""
    times, odd = over.odd_part()
    power, left = odd.primary()
    row = ((over.one, over.other), (by.one, by.other), times, power, (left.one, left.other),
           _change(by, times, power, left))
    return row, left


def _value(rows, last):
    """What the rows of steps tell if they end with this second pair."""
    if last != Pair(1, 0):
        return None
    return sum([row[5] for row in rows]) % 4


def fourth_steps(number, by):
    """The FourthSteps of a pair by an odd one, with the rests of `divided`."""
    _need_both(number, by)
    second = by.primary()[1]
    over = number.divided(second)[1]
    rows = []
    while over.norm > 0:
        row, left = _step(over, second)
        rows.append(row)
        over = second.divided(left)[1]
        second = left
    return FourthSteps(rows, _value(rows, second))


def fourth_symbol(number, by):
    """The fourth symbol of a pair by an odd one: 0 to 3, or None."""
    return fourth_steps(number, by).value


def _divides(pair, other):
    """Whether a pair that is not 0 divides another one."""
    return other.divided(pair)[1].norm == 0


def _left_by(row, number, by):
    """The pair that a row leaves if it is a right one of a number by a primary pair, with whatever rest, else None."""
    if not isinstance(row, tuple) or len(row) != 6 or not are_integers(row[0]) or len(row[0]) != 2:
        return None
    one, other = row[0]
    over = Pair(one, other)
    if over.norm == 0 or not _divides(by, number - over):
        return None
    wanted, left = _step(over, by)
    return left if is_just(row, wanted) else None


def shows_fourth_steps(number, by, value):
    """Whether a value is a FourthSteps of a pair by an odd one, with whatever rests."""
    _need_both(number, by)
    if not isinstance(value, FourthSteps) or not is_named(value, "FourthSteps"):
        return False
    if not isinstance(value.rows, tuple):
        return False
    now, second = number, by.primary()[1]
    for row in value.rows:
        left = _left_by(row, now, second)
        if left is None:
            return False
        now, second = second, left
    # The last rest is 0, and has no row.
    return _divides(second, now) and is_just(value.value, _value(value.rows, second))
