"""Lines that a desk is told: deeds and asks, and what stands in them."""

from bendsigns.checks import is_name
from bendsigns.errors import BadFour, BadText
from bendsigns.fours import Four
from bendsigns.texts import is_number_from, items_of, need_many

DEEDS = ("four", "root", "copy", "walk", "turn", "least", "join", "drop")
ASKS = (
    "names", "show", "rim", "kind", "sign", "fourth", "rims", "bars", "alike", "touch", "out", "comes", "barred",
    "many",
)
PLACES = ("0", "1", "2", "3")
# What is wanted behind the first item: a name that is new or one that is kept, a place, a number from 0 on, an integer.
WANTED = {
    "four": ("new", "integer", "integer", "integer", "integer"),
    "root": ("new", "number", "number"),
    "copy": ("new", "name"),
    "walk": ("name", "place"),
    "turn": ("name", "place"),
    "least": ("name",),
    "join": ("new", "name", "name"),
    "drop": ("name",),
    "names": (),
    "show": ("name",),
    "rim": ("name",),
    "kind": ("name",),
    "sign": ("name",),
    "fourth": ("name",),
    "rims": ("name",),
    "bars": ("name",),
    "alike": ("name", "name"),
    "touch": ("name", "place", "integer"),
    "out": ("name", "number"),
    "comes": ("name", "number"),
    "barred": ("name", "number"),
    "many": ("name", "number"),
}


def need_first(line, words):
    """Raise BadText unless a line's first item is one of these words."""
    if items_of(line)[0] not in words:
        raise BadText(0, 0)


def is_ask(line):
    """Whether any value is a line whose first item is that of an ask."""
    return isinstance(line, str) and line.split(" ")[0] in ASKS


def _wanted(word, many):
    """What is wanted behind the first item of a line of so many items."""
    wanted = WANTED[word]
    if word != "walk":
        return wanted
    # Of places there is one or more.
    return wanted + ("place",) * (many - 1 - len(wanted))


def _is_wanted(item, kind):
    """Whether an item is of the kind that its place wants."""
    if kind in ("new", "name"):
        return is_name(item)
    if kind == "place":
        return item in PLACES
    return is_number_from(item, 0 if kind == "number" else None)


def _value_of(item, kind):
    """What an item of a kind tells."""
    return item if kind in ("new", "name") else int(item)


def _four_of(bends):
    """The four that the last items of a line tell."""
    try:
        return Four(bends)
    except BadFour:
        raise BadText(0, 5) from None


def read_line(line):
    """The first item of a line and what stands behind it, as one tuple."""
    need_first(line, DEEDS + ASKS)
    items = items_of(line)
    wanted = _wanted(items[0], len(items))
    for index, item in enumerate(items[1:]):
        if index == len(wanted) or not _is_wanted(item, wanted[index]):
            raise BadText(0, index + 1)
    need_many(items, len(wanted) + 1)
    values = [_value_of(item, kind) for item, kind in zip(items[1:], wanted)]
    if items[0] == "four":
        values = [values[0], _four_of(values[1:])]
    return (items[0], *values)


def names_in(told):
    """The names in what `read_line` told of a line that want a four that is kept, as they stand there."""
    return [value for value, kind in zip(told[1:], WANTED[told[0]]) if kind == "name"]


def new_in(told):
    """The new name in what `read_line` told of a line, None if there is none."""
    return told[1] if WANTED[told[0]][:1] == ("new",) else None
