"""Deeds: lines that change what a desk keeps."""

from bendsigns.answers import need_names, row_text
from bendsigns.desk_lines import DEEDS, need_first, read_line
from bendsigns.errors import BadNumber, TooMany
from bendsigns.leasts import least
from bendsigns.products import gasket_product
from bendsigns.rims import rim_fours
from bendsigns.shelves import need_shelf, with_four, without
from bendsigns.texts import MOST_DIGITS
from bendsigns.turned import turned


def _kept(shelf, name, four, answer):
    """The shelf that keeps a four under a name, and an answer."""
    # Lines are texts, and in these no integer has more digits.
    if any([abs(bend) >= 10 ** 60 for bend in four.bends]):
        raise TooMany("digits", MOST_DIGITS)
    return (with_four(shelf, name, four), answer)


def _four(shelf, new, four):
    """A four is kept; its total."""
    return _kept(shelf, new, four, str(four.total))


def _root(shelf, new, rim, index):
    """A rim four is kept; its bends."""
    fours = rim_fours(rim)
    if index >= len(fours):
        raise BadNumber("index")
    return _kept(shelf, new, fours[index], str(fours[index]))


def _copy(shelf, new, name):
    """A four is kept under a second name; its bends."""
    four = shelf.kept(name)
    return _kept(shelf, new, four, str(four))


def _walk(shelf, name, *letters):
    """A four goes along a word; its bends."""
    four = shelf.kept(name).after(letters)
    return _kept(shelf, name, four, str(four))


def _turn(shelf, name, place):
    """A four is turned; its bends."""
    four = turned(shelf.kept(name), place)
    return _kept(shelf, name, four, str(four))


def _least(shelf, name):
    """The least four of a gasket comes in the place of a four; the letters back."""
    told = least(shelf.kept(name))
    return _kept(shelf, name, told.four, row_text(told.letters))


def _join(shelf, new, name, other):
    """The product of two gaskets is kept; its bends."""
    four = gasket_product(shelf.kept(name), shelf.kept(other))
    return _kept(shelf, new, four, str(four))


def _drop(shelf, name):
    """A four is kept no longer; how many are."""
    left = without(shelf, name)
    return (left, str(len(left.names)))


DONE_BY = {
    "four": _four, "root": _root, "copy": _copy, "walk": _walk, "turn": _turn, "least": _least, "join": _join,
    "drop": _drop,
}


def changed(shelf, line):
    """The Shelf that a deed leaves behind, and the answer."""
    need_shelf(shelf, "shelf")
    need_first(line, DEEDS)
    told = read_line(line)
    need_names(shelf, told)
    deed = DONE_BY[told[0]]
    values = told[1:]
    return deed(shelf, *values)
