"""All least forms of a side, and all fours with a rim."""

from bendsigns.around import four_from
from bendsigns.checks import common_divisor
from bendsigns.forms import Form
from bendsigns.leasts import least
from bendsigns.needs import need_within

MOST_SIDE = 60


def _forms_with(side, half):
    """The forms of a side that are least and have this half, from 0 on."""
    product = side * side + half * half
    forms = []
    first = max(1, 2 * half)
    while first * first <= product:
        if product % first == 0 and common_divisor([first, half, product // first]) == 1:
            forms.append(Form(first, half, product // first))
        first += 1
    return forms


def least_forms(side):
    """The forms of a side that are least and have a half from 0 on, ascending by their numbers."""
    need_within(side, 1, MOST_SIDE, "side")
    forms = []
    half = 0
    # 2 half is first at most, and first is last at most: so their product is 4 half half at least.
    while 3 * half * half <= side * side:
        forms.extend(_forms_with(side, half))
        half += 1
    return tuple(sorted(forms, key=lambda form: form.numbers))


def rim_fours(rim):
    """All rim fours of a rim, ascending by their bends."""
    need_within(rim, 1, MOST_SIDE, "rim")
    fours = [four_from(form, True) for form in least_forms(rim)]
    return tuple(sorted(fours, key=lambda four: four.bends))


def is_own_mirror(four):
    """Whether the gasket of a four is its own mirror."""
    told = least(four).four
    bends = sorted(told.bends)
    if any([bends[index] == bends[index + 1] for index in range(3)]):
        return True
    return any([2 * bend == told.total for bend in bends])
