"""How many least forms, fours with a rim and circles that touch there are, without a list."""

from bendsigns.around import form_at
from bendsigns.needs import need_within
from bendsigns.touching import needed_worth, pairs_of_worth

MOST_NUMBER = 1000000


def prime_powers(number):
    """The pairs of each prime of a number and its power, primes ascending."""
    need_within(number, 1, MOST_NUMBER, "number")
    left = number
    pairs = []
    prime = 2
    while prime * prime <= left:
        power = 0
        while left % prime == 0:
            left //= prime
            power += 1
        if power > 0:
            pairs.append((prime, power))
        prime += 1
    if left > 1:
        pairs.append((left, 1))
    return tuple(pairs)


def many_least_forms(side):
    """How many least forms of a side there are, those with a half below 0, too."""
    need_within(side, 1, MOST_NUMBER, "side")
    if side == 1:
        return 1
    many = side
    for prime, _ in prime_powers(side):
        if prime % 4 == 1:
            many = many // prime * (prime - 1)
        if prime % 4 == 3:
            many = many // prime * (prime + 1)
    return many // 2


def many_own_mirrors(rim):
    """How many gaskets with a rim are their own mirrors."""
    need_within(rim, 1, MOST_NUMBER, "rim")
    many = 1
    for prime, power in prime_powers(rim):
        if (prime, power) != (2, 1):
            many *= 2
    return many


def many_rim_fours(rim):
    """How many rim fours of a rim there are."""
    need_within(rim, 1, MOST_NUMBER, "rim")
    return (many_least_forms(rim) + many_own_mirrors(rim)) // 2


def many_touching(four, place, number):
    """How many circles with this bend touch the one at a place."""
    worth = needed_worth(four, place, number)
    return len(pairs_of_worth(form_at(four, place), worth))
