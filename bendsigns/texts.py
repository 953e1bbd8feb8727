"""Reading texts: strings of items with single blanks between."""

from bendsigns.checks import DIGITS, is_within
from bendsigns.errors import BadText

MOST_DIGITS = 60


def is_number(item):
    """Whether an item is an integer as texts have it: no plus, no leading zero, no minus zero."""
    digits = item[1:] if item.startswith("-") else item
    # The length is looked at first, as Python refuses to read integers of thousands of digits.
    if not 1 <= len(digits) <= MOST_DIGITS:
        return False
    if not all([digit in DIGITS for digit in digits]):
        return False
    return item == "0" or not digits.startswith("0")


def is_number_from(item, least):
    """Whether an item is an integer from least on; None stands for no bound."""
    return is_number(item) and is_within(int(item), least, None)


def items_of(text):
    """The items of a text."""
    if not isinstance(text, str):
        raise BadText(0, 0)
    return text.split(" ")


def need_many(items, many):
    """Raise BadText if items, each of which can stand, are fewer than many."""
    if len(items) < many:
        raise BadText(0, len(items))


def read_numbers(text, leasts):
    """The integers that a text tells: as many as leasts, each from the one of leasts at its index on."""
    items = items_of(text)
    for index, item in enumerate(items):
        if index == len(leasts) or not is_number_from(item, leasts[index]):
            raise BadText(0, index)
    need_many(items, len(leasts))
    return [int(item) for item in items]


def read_choices(text, choices):
    """The items of a text: as many as choices, each one of those of choices at its index."""
    items = items_of(text)
    for index, item in enumerate(items):
        if index == len(choices) or item not in choices[index]:
            raise BadText(0, index)
    need_many(items, len(choices))
    return items
