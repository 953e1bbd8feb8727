"""What stands round one circle of a four, as a form, and back."""

from bendsigns.errors import Flat
from bendsigns.forms import Form, need_form
from bendsigns.fours import Four, need_four
from bendsigns.needs import need_place


def other_places(place):
    """The three other places, the least first."""
    return tuple([other for other in range(4) if other != place])


def need_circle(four, place):
    """Raise Flat if a line stands at a place."""
    if four.bends[place] == 0:
        raise Flat()


def form_at(four, place):
    """The form at a place of a four."""
    need_four(four, "four")
    need_place(place)
    need_circle(four, place)
    bend = four.bends[place]
    near, middle, far = [four.bends[other] for other in other_places(place)]
    return Form(bend + near, (bend + near + middle - far) // 2, bend + middle)


def four_from(form, is_rim):
    """The four with this form at place 0, and there the side as the bend, below 0 if it is a rim."""
    need_form(form, "form")
    bend = -form.side if is_rim else form.side
    first, half, last = form.numbers
    return Four([bend, first - bend, last - bend, first + last - 2 * half - bend])
