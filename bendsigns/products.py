"""Products of forms of one side, and of gaskets with one rim."""

from bendsigns.around import form_at, four_from
from bendsigns.errors import Flat, Misfit
from bendsigns.forms import Form, need_form
from bendsigns.fours import need_four
from bendsigns.leastforms import least_form
from bendsigns.leasts import is_flat, least
from bendsigns.needs import need_few, need_within
from bendsigns.rims import MOST_SIDE


def idle_form(side):
    """The form of a side with which each form is its own least form."""
    need_within(side, 1, None, "side")
    return Form(1, 0, side * side)


def _divisor_of(one, other):
    """(d, u, v): d = u one + v other divides both integers, but for its sign it is the greatest one that does."""
    now, by = (one, 1, 0), (other, 0, 1)
    while by[0] != 0:
        times = now[0] // by[0]
        now, by = by, tuple([now[k] - times * by[k] for k in range(3)])
    return now


def _multiplied(one, other):
    """The least form that is alike to the product of two forms of one side."""
    first, half, _ = one.numbers
    other_first, other_half, _ = other.numbers
    square = one.side * one.side
    # No change is asked for: the document's facts tell the product by the greatest common divisor
    # of both first numbers and the sum of both halves. The other sign of it goes out again.
    part, u, v = _divisor_of(first, other_first)
    divisor, t, w = _divisor_of(part, half + other_half)
    middle = t * (u * first * other_half + v * other_first * half) + w * (half * other_half - square)
    middle //= divisor
    front = (first // divisor) * (other_first // divisor)
    middle %= front
    return least_form(Form(front, middle, (middle * middle + square) // front)).form


def product(one, other):
    """The Form that is the product of two forms."""
    need_form(one, "one")
    need_form(other, "other")
    if one.side != other.side:
        raise Misfit("side")
    return _multiplied(one, other)


def contrary(form):
    """The form whose product with this one is the idle form."""
    need_form(form, "form")
    return least_form(form.mirrored()).form


def power(form, times):
    """The product of a form, so many times as a factor."""
    need_form(form, "form")
    need_within(times, 0, None, "times")
    told, square, left = idle_form(form.side), form, times
    while left > 0:
        if left % 2 == 1:
            told = _multiplied(told, square)
        square, left = _multiplied(square, square), left // 2
    return told


def order(form):
    """The least number from 1 on whose power of a form is the idle form."""
    need_form(form, "form")
    need_few(form.side, "side", MOST_SIDE)
    idle = idle_form(form.side)
    now, times = least_form(form).form, 1
    while now != idle:
        now, times = _multiplied(now, form), times + 1
    return times


def form_of_gasket(least_four):
    """The form of a gasket that is not flat: the one at the rim's place of its least four."""
    return form_at(least_four, least_four.bends.index(min(least_four.bends)))


def gasket_product(one, other):
    """The Four, with the rim at place 0, that is told of the product of two gaskets."""
    need_four(one, "one")
    need_four(other, "other")
    fours = [least(one).four, least(other).four]
    if any([is_flat(four) for four in fours]):
        raise Flat()
    mine, theirs = [form_of_gasket(four) for four in fours]
    # The side of the form at a rim is the rim.
    if mine.side != theirs.side:
        raise Misfit("rim")
    told = _multiplied(mine, theirs)
    first, half, last = told.numbers
    return four_from(told if half >= 0 else Form(last, -half, first), True)
