"""Numbers a + b i of the tests' own, as tuples (a, b), with which pairs are compared."""

from fractions import Fraction
from math import isqrt

UNITS = ((1, 0), (0, 1), (-1, 0), (0, -1))


def times(p, q):
    """The product."""
    return p[0] * q[0] - p[1] * q[1], p[0] * q[1] + p[1] * q[0]


def less(p, q):
    """The difference."""
    return p[0] - q[0], p[1] - q[1]


def norm(p):
    """The norm."""
    return p[0] * p[0] + p[1] * p[1]


def over(p, q):
    """The quotient of p by q, which is not 0, as two fractions."""
    one, other = times(p, (q[0], -q[1]))
    return Fraction(one, norm(q)), Fraction(other, norm(q))


def divides(q, p):
    """Whether p is q times something; 0 divides 0 alone."""
    if q == (0, 0):
        return p == (0, 0)
    return all(part.denominator == 1 for part in over(p, q))


def power(p, many):
    """p, so many times as a factor."""
    told = (1, 0)
    for _ in range(many):
        told = times(told, p)
    return told


def all_up_to(bound):
    """All pairs with both numbers from -bound to bound."""
    return [(one, other) for one in range(-bound, bound + 1) for other in range(-bound, bound + 1)]


def primes_up_to(bound):
    """The odd prime pairs up to a norm, all kin of each one."""
    reach = [p for p in all_up_to(int(bound ** 0.5) + 1) if 1 < norm(p) <= bound and norm(p) % 2]
    return [p for p in reach if has_no_divisor(p)]


def has_no_divisor(p):
    """Whether no pair with a norm from 2 to the root of the norm divides p."""
    root = int(norm(p) ** 0.5) + 1
    return not any(1 < norm(q) <= root and divides(q, p) for q in all_up_to(int(root ** 0.5) + 1))


def reduced(p, q):
    """Something small that p leaves by q."""
    part = [round(each) for each in over(p, q)]
    return less(p, times(q, part))


def by_prime(number, prime):
    """The fourth symbol by an odd prime pair, by the power that tells it."""
    if divides(prime, number):
        return None
    told, square, left = (1, 0), reduced(number, prime), (norm(prime) - 1) // 4
    while left:
        if left % 2:
            told = reduced(times(told, square), prime)
        square, left = reduced(times(square, square), prime), left // 2
    (e,) = [e for e in range(4) if divides(prime, less(told, UNITS[e]))]
    return e


def by_primes(number, primes):
    """The fourth symbol by a product of odd prime pairs and any unit."""
    told = [by_prime(number, prime) for prime in primes]
    return None if None in told else sum(told) % 4


def prime_factors(number):
    """The odd prime pairs whose product is an odd integer, but for a unit, each as often as it is in it."""
    left, found = abs(number), []
    prime = 3
    while left > 1:
        if prime * prime > left:
            prime = left
        while left % prime == 0:
            found.extend(split(prime))
            left //= prime
        prime += 2
    return found


def split(prime):
    """The one or two prime pairs of an odd prime."""
    if prime % 4 == 3:
        return [(prime, 0)]
    one = [one for one in range(1, isqrt(prime) + 1) if isqrt(prime - one * one) ** 2 == prime - one * one][0]
    other = isqrt(prime - one * one)
    return [(one, other), (one, -other)]


def common(p, q):
    """A pair that divides both and that each such pair divides."""
    while q != (0, 0):
        p, q = q, reduced(p, q)
    return p
