"""Local signs of forms, and the sign of a gasket by its rim."""

from bendsigns.counts import MOST_NUMBER, prime_powers
from bendsigns.forms import need_form
from bendsigns.leasts import is_flat, least
from bendsigns.needs import need_few
from bendsigns.products import form_of_gasket
from bendsigns.symbols import symbol


def _undivided(form, prime):
    """The first number of a form or, if a prime of the side divides this, its last one, which it does not divide."""
    first, _, last = form.numbers
    return first if first % prime != 0 else last


def local_signs(form):
    """The pairs of 8, if 4 divides the side, and of each odd prime of the side with the local sign by it."""
    need_form(form, "form")
    need_few(form.side, "side", MOST_NUMBER)
    signs = []
    if form.side % 4 == 0:
        # It leaves 1 or 5 by 8.
        signs.append((8, 1 if _undivided(form, 2) % 8 == 1 else -1))
    primes = [prime for prime, _ in prime_powers(form.side) if prime != 2]
    signs.extend([(prime, symbol(_undivided(form, prime), prime)) for prime in primes])
    return tuple(signs)


def _sign_of_rim(number):
    """The sign of a rim alone."""
    if number % 4 == 2:
        return -1 if number % 8 == 2 else 1
    return -1 if number % 8 == 5 else 1


def sign_by_rim(four):
    """The sign by the rim of the gasket of a four."""
    told = least(four).four
    if is_flat(told):
        return 1
    form = form_of_gasket(told)
    value = _sign_of_rim(form.side)
    signs = local_signs(form)
    powers = dict(prime_powers(form.side))
    for by, sign in signs:
        # The local sign by 8 stands for the prime 2.
        if powers[2 if by == 8 else by] % 2 == 1:
            value *= sign
    return value
