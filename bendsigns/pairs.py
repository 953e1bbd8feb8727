"""Pairs: the numbers one + other i."""

from bendsigns.errors import BadPair
from bendsigns.needs import need_integer
from bendsigns.texts import read_numbers


def _nearest(number, by):
    """The integer that is nearest to a number by one above 0, the lower one of two that are as near."""
    return -((by - 2 * number) // (2 * by))


class Pair:
    """The number one + other i, and its norm."""

    def __init__(self, one, other):
        need_integer(one, "one")
        need_integer(other, "other")
        self.one = one
        self.other = other
        self.norm = one * one + other * other

    def __eq__(self, other):
        return isinstance(other, Pair) and self.one == other.one and self.other == other.other

    def __str__(self):
        return " ".join([str(self.one), str(self.other)])

    @staticmethod
    def read(text):
        """The pair whose text this is."""
        one, other = read_numbers(text, (None, None))
        return Pair(one, other)

    def __add__(self, other):
        if not isinstance(other, Pair):
            return NotImplemented
        return Pair(self.one + other.one, self.other + other.other)

    def __sub__(self, other):
        if not isinstance(other, Pair):
            return NotImplemented
        return Pair(self.one - other.one, self.other - other.other)

    def __mul__(self, other):
        if not isinstance(other, Pair):
            return NotImplemented
        one = self.one * other.one - self.other * other.other
        return Pair(one, self.one * other.other + self.other * other.one)

    def __neg__(self):
        return Pair(-self.one, -self.other)

    def flipped(self):
        """The pair with the other sign of its second number."""
        return Pair(self.one, -self.other)

    def times_i(self, power):
        """This pair times i to a power."""
        need_integer(power, "power")
        one, other = self.one, self.other
        for _ in range(power % 4):
            one, other = -other, one
        return Pair(one, other)

    def is_primary(self):
        """Whether this pair is the one of its odd kin that is taken."""
        return self.other % 2 == 0 and (self.one + self.other) % 4 == 1

    def divided(self, by):
        """The (quotient, rest) by another pair, each part of the quotient the nearest integer."""
        need_pair(by, "by")
        if by.norm == 0:
            raise BadPair("by")
        whole = self * by.flipped()
        quotient = Pair(_nearest(whole.one, by.norm), _nearest(whole.other, by.norm))
        return (quotient, self - by * quotient)

    def common(self, other):
        """The greatest pair that divides both, with one above 0 and other from 0 on."""
        need_pair(other, "other")
        now, by = self, other
        while by.norm > 0:
            now, by = by, now.divided(by)[1]
        return _upright(now)

    def odd_part(self):
        """(times, pair): this pair is 1 + i, so many times as a factor, times the odd pair."""
        if self.norm == 0:
            raise BadPair("zero")
        one, other = self.one, self.other
        times = 0
        while (one + other) % 2 == 0:
            one, other = (one + other) // 2, (other - one) // 2
            times += 1
        return (times, Pair(one, other))

    def primary(self):
        """(power, pair): this odd pair is its primary kin times i to the power, 0 to 3."""
        if self.norm % 2 == 0:
            raise BadPair("odd")
        power = [turns for turns in range(4) if self.times_i(-turns).is_primary()][0]
        return (power, self.times_i(-power))


def need_pair(value, part):
    """Raise BadPair with this part for what is no Pair."""
    if not isinstance(value, Pair):
        raise BadPair(part)


def _upright(pair):
    """The kin of a pair with one above 0 and other from 0 on; that of 0 is 0."""
    while pair.norm > 0 and not (pair.one > 0 and pair.other >= 0):
        pair = pair.times_i(1)
    return pair
