"""Products of forms of the tests' own, by changes to first numbers without a common divisor."""

import math

from tests.walks import least_numbers


def numbers_changed(numbers, p, q, r, s):
    """The numbers of a form whose worth at (x, y) is that of this one at (p x + q y, r x + s y)."""
    first, half, last = numbers
    return (first * p * p + 2 * half * p * r + last * r * r,
            first * p * q + half * (p * s + q * r) + last * r * s,
            first * q * q + 2 * half * q * s + last * s * s)


def reduced(numbers):
    """The numbers of the least form that is alike, by shifts and exchanges of both ends."""
    first, half, last = numbers
    while True:
        times = -((2 * half + first) // (2 * first))
        first, half, last = numbers_changed((first, half, last), 1, times, 0, 1)
        if 2 * half == -first:
            first, half, last = numbers_changed((first, half, last), 1, 1, 0, 1)
        if first < last or (first == last and half >= 0):
            return first, half, last
        first, half, last = last, -half, first


def with_coprime_first(numbers, number):
    """The numbers of an alike form whose first one has no common divisor with a number, and is not 1 if it can be."""
    for bound in range(1, 50):
        for x in range(bound, -1, -1):
            y = bound - x
            if math.gcd(x, y) != 1:
                continue
            worth = numbers[0] * x * x + 2 * numbers[1] * x * y + numbers[2] * y * y
            if math.gcd(worth, number) == 1:
                # s and q with x s - q y = 1.
                s = pow(x, -1, y) if y > 1 else 1
                q = (x * s - 1) // y if y else 0
                return numbers_changed(numbers, x, q, y, s)
    raise AssertionError("no worth is coprime")


def own_product(one, other):
    """The numbers of the product of two forms of one side, by their numbers."""
    side = math.isqrt(one[0] * one[2] - one[1] * one[1])
    first, half, last = one
    other_first, other_half, other_last = with_coprime_first(other, first)
    both = first * other_first
    middle = half + first * ((other_half - half) * pow(first, -1, other_first) % other_first if other_first > 1 else 0)
    middle %= both
    assert middle % first == half % first and middle % other_first == other_half % other_first
    assert (middle * middle + side * side) % both == 0
    return reduced((both, middle, (middle * middle + side * side) // both))


def least_table(most):
    """For each side up to a bound all least forms' numbers, those with a half below 0, too."""
    return {side: least_numbers(side) for side in range(1, most + 1)}
