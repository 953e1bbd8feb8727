"""Checking lists of least forms and of rim fours, without making one."""

from bendsigns.counts import many_rim_fours
from bendsigns.forms import Form
from bendsigns.fours import Four
from bendsigns.leastforms import are_least
from bendsigns.leasts import lowering_place
from bendsigns.needs import need_within
from bendsigns.rims import MOST_SIDE


def _ascend(rows):
    """Whether each row is less than the next one, so that none stands twice."""
    return all([rows[index] < rows[index + 1] for index in range(len(rows) - 1)])


def _is_form_of(side, value):
    """Whether any value is a least form of a side, with a half from 0 on."""
    if not isinstance(value, Form) or value.side != side:
        return False
    return value.numbers[1] >= 0 and are_least(value.numbers)


def _is_rim_four(rim, value):
    """Whether any value is a least four with this rim at place 0, whose bends ascend."""
    if not isinstance(value, Four) or value.bends[0] != -rim:
        return False
    return sorted(value.bends) == list(value.bends) and lowering_place(value.bends) is None


def shows_least_forms(side, value):
    """Whether a value is all of `least_forms` of a side, in order."""
    need_within(side, 1, MOST_SIDE, "side")
    if not isinstance(value, (list, tuple)) or not all([_is_form_of(side, each) for each in value]):
        return False
    # Each rim four comes of one of these forms, and each form makes one.
    return len(value) == many_rim_fours(side) and _ascend([form.numbers for form in value])


def shows_rim_fours(rim, value):
    """Whether a value is all of `rim_fours` of a rim, in order."""
    need_within(rim, 1, MOST_SIDE, "rim")
    if not isinstance(value, (list, tuple)) or not all([_is_rim_four(rim, each) for each in value]):
        return False
    return len(value) == many_rim_fours(rim) and _ascend([four.bends for four in value])
