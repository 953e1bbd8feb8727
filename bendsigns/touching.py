"""Which circles and which integers touch one circle of a four."""

from math import gcd, isqrt

from bendsigns.around import form_at, need_circle, other_places
from bendsigns.checks import common_divisor
from bendsigns.errors import Misfit, TooMany
from bendsigns.forms import Form
from bendsigns.fours import need_four
from bendsigns.leastforms import least_form
from bendsigns.needs import MOST_LETTERS, need_integer, need_place, need_within
from bendsigns.papers import Denial, Paper

MOST_BEND = 500
MOST_WORTH = 2000


class Way(Paper):
    """The shortest word to a circle that touches a place, and the place where it stands then."""

    def __init__(self, letters, at):
        Paper.__init__(self, "way", letters, at)
        self.letters, self.at = self.parts


class Touching(Paper):
    """The told pair of a circle that touches."""

    def __init__(self, x, y):
        Paper.__init__(self, "touching", x, y)
        self.x, self.y = self.parts


class Untouched(Denial):
    """The least forms of all circles that a circle with such a bend could touch."""

    def __init__(self, forms):
        Denial.__init__(self, "untouched", forms)
        self.forms = self.parts[0]


def is_told_pair(x, y):
    """Whether two integers are a told pair."""
    return gcd(x, y) == 1 and (x > 0 or (x, y) == (0, 1))


def _told(x, y):
    """The told pair among a coprime pair and this one with both signs turned."""
    return (x, y) if is_told_pair(x, y) else (-x, -y)


def _row(form, y, most):
    """All x so that a form has a worth up to most at (x, y), y from 0 on; at y 0 just 1 is coprime."""
    first, half, _ = form.numbers
    if y == 0:
        return [1] if first <= most else []
    # first times the worth is (first x + half y) squared and (side y) squared.
    reach = isqrt(first * most - form.side * form.side * y * y)
    low = -((reach + half * y) // first)
    high = (reach - half * y) // first
    return list(range(low, high + 1))


def pairs_within(form, most):
    """All told pairs at which a form has a worth up to most, in an order that tells nothing."""
    # Round a four far from its least one, pairs with small worths are far out;
    # round the least form they are near, and its change leads there.
    reduced = least_form(form)
    p, q, r, s = reduced.change
    bound = reduced.form.numbers[0] * most
    square = form.side * form.side
    pairs = []
    y = 0
    while square * y * y <= bound:
        near = [x for x in _row(reduced.form, y, most) if gcd(x, y) == 1]
        pairs.extend([_told(p * x + q * y, r * x + s * y) for x in near])
        y += 1
    return pairs


def pairs_of_worth(form, worth):
    """All told pairs at which a form has just this worth, ascending."""
    return sorted([(x, y) for x, y in pairs_within(form, worth) if form.worth(x, y) == worth])


def forms_of_worth(side, worth):
    """The least forms of this side that have this worth at some told pair, as t ascends."""
    forms = []
    for t in range(worth):
        product = t * t + side * side
        if product % worth == 0 and common_divisor([worth, t, product // worth]) == 1:
            forms.append(least_form(Form(worth, t, product // worth)).form)
    return tuple(forms)


def needed_worth(four, place, number):
    """The worth of the form at a place at which a circle of this bend would stand, if all fits."""
    need_four(four, "four")
    need_place(place)
    need_integer(number, "number")
    worth = number + four.bends[place]
    need_within(worth, 1, MOST_WORTH, "number")
    need_circle(four, place)
    return worth


def touching(four, place, most):
    """(bend, x, y) for all circles up to most that touch the one at a place, ascending."""
    need_four(four, "four")
    need_place(place)
    need_within(most, 0, MOST_BEND, "most")
    form = form_at(four, place)
    bend = four.bends[place]
    pairs = pairs_within(form, most + bend)
    return tuple(sorted([(form.worth(x, y) - bend, x, y) for x, y in pairs]))


def _turns(one, other):
    """1 or -1 for two pairs that turn the one way or the other, 0 for the same ones."""
    return one[0] * other[1] - one[1] * other[0]


def _leads_on(pairs, index, pair):
    """Whether the exchange of one of three pairs leads to a pair that is none of the three."""
    one, other = [pairs[k] for k in range(3) if k != index]
    left = pairs[index]
    beyond = _turns(one, pair) * _turns(pair, other)
    here = _turns(one, left) * _turns(left, other)
    return beyond * here < 0


def _exchanged_pair(pairs, index):
    """The pair that comes in the place of one of three pairs round a circle."""
    one, other = [pairs[k] for k in range(3) if k != index]
    both = _told(one[0] + other[0], one[1] + other[1])
    if pairs[index] == both:
        return _told(one[0] - other[0], one[1] - other[1])
    return both


def word_to(four, place, x, y):
    """The Way to the circle of a told pair."""
    need_four(four, "four")
    need_place(place)
    need_integer(x, "x")
    need_integer(y, "y")
    need_circle(four, place)
    if not is_told_pair(x, y):
        raise Misfit("pair")
    places = other_places(place)
    pairs = [(1, 0), (0, 1), (1, -1)]
    letters = []
    while (x, y) not in pairs:
        if len(letters) == MOST_LETTERS:
            raise TooMany("letters", MOST_LETTERS)
        index = [k for k in range(3) if _leads_on(pairs, k, (x, y))][0]
        pairs[index] = _exchanged_pair(pairs, index)
        letters.append(places[index])
    return Way(letters, places[pairs.index((x, y))])


def touches(four, place, number):
    """Whether a circle with this bend touches the one at a place: the Touching or the Untouched."""
    worth = needed_worth(four, place, number)
    form = form_at(four, place)
    pairs = pairs_of_worth(form, worth)
    if pairs:
        x, y = pairs[0]
        return Touching(x, y)
    return Untouched(forms_of_worth(form.side, worth))
