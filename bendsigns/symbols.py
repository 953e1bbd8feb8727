"""The symbol of an integer by an odd one, and the steps that come down to it."""

from bendsigns.checks import is_within
from bendsigns.errors import BadNumber
from bendsigns.needs import need_integer
from bendsigns.papers import Paper


class Steps(Paper):
    """The odd integers to which one comes down, each with the rest by it, and the symbol."""

    def __init__(self, rows, value):
        Paper.__init__(self, "steps", rows, value)
        self.rows, self.value = self.parts


def _halved(number):
    """The odd integer that a number above 0 is times some 2, and how many of them."""
    many = 0
    while number % 2 == 0:
        number //= 2
        many += 1
    return number, many


def _turn(odd, left, many):
    """-1 if the symbol changes its sign, from a rest by an odd integer to what is left of the rest, else 1."""
    by_twos = many % 2 == 1 and odd % 8 in (3, 5)
    by_exchange = odd % 4 == 3 and left % 4 == 3
    return 1 if by_twos == by_exchange else -1


def steps_of(number, by):
    """The Steps of an integer by an odd one above 0."""
    need_integer(number, "number")
    if not is_within(by, 1, None) or by % 2 == 0:
        raise BadNumber("by")
    odd, over = by, number % by
    rows, value = [(odd, over)], 1
    while over != 0:
        left, many = _halved(over)
        value *= _turn(odd, left, many)
        odd, over = left, odd % left
        rows.append((odd, over))
    return Steps(rows, value if odd == 1 else 0)


def symbol(number, by):
    """The symbol of an integer by an odd one above 0: 1, -1 or 0."""
    return steps_of(number, by).value
