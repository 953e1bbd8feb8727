"""Asks: lines that ask what a desk keeps, and what is so of it."""

from bendsigns.answers import NONE, need_names, paper_text, row_text
from bendsigns.desk_lines import ASKS, need_first, read_line
from bendsigns.families import families
from bendsigns.fourthfamilies import fourths_barred
from bendsigns.fourthsigns import fourth_sign
from bendsigns.kinds import kind_of
from bendsigns.leasts import alike, rim
from bendsigns.lists import circles
from bendsigns.pedigrees import pedigree
from bendsigns.shelves import need_shelf
from bendsigns.signs import sign
from bendsigns.touching import touches
from bendsigns.turned import turned_out
from bendsigns.verdicts import barred, verdict


def _names(shelf):
    """All names."""
    return row_text(shelf.names)


def _show(shelf, name):
    """The bends of a four."""
    return str(shelf.kept(name))


def _rim(shelf, name):
    """The rim of its gasket."""
    return str(rim(shelf.kept(name)))


def _kind(shelf, name):
    """Its kind."""
    return str(kind_of(shelf.kept(name)))


def _sign(shelf, name):
    """Its sign."""
    return str(sign(shelf.kept(name)).value)


def _fourth(shelf, name):
    """Its fourth sign."""
    return str(fourth_sign(shelf.kept(name)).value)


def _rims(shelf, name):
    """The rims of its pedigree."""
    return row_text(pedigree(shelf.kept(name)).rims)


def _bars(shelf, name):
    """All families that are barred, and all fourth families."""
    four = shelf.kept(name)
    return " ".join([row_text(families(four)), "/", row_text(fourths_barred(four))])


def _alike(shelf, name, other):
    """Whether two gaskets are alike."""
    return alike(shelf.kept(name), shelf.kept(other)).word


def _touch(shelf, name, place, number):
    """Whether a circle with this bend touches the one at a place, and by which pair."""
    told = touches(shelf.kept(name), place, number)
    return paper_text(told) if told else told.word


def _out(shelf, name, bend):
    """What comes of turning its gasket where this bend stands."""
    rows = [row_text(bends) for bends in turned_out(shelf.kept(name), bend)]
    return " / ".join(rows) if rows else NONE


def _comes(shelf, name, number):
    """Whether a number comes in its gasket."""
    return paper_text(verdict(shelf.kept(name), number))


def _barred(shelf, name, number):
    """What bars a number."""
    told = barred(shelf.kept(name), number)
    return NONE if told is None else paper_text(told)


def _many(shelf, name, most):
    """How many circles its gasket has up to a bend."""
    return str(len(circles(shelf.kept(name), most)))


ANSWERED_BY = {
    "names": _names, "show": _show, "rim": _rim, "kind": _kind, "sign": _sign, "fourth": _fourth, "rims": _rims,
    "bars": _bars, "alike": _alike, "touch": _touch, "out": _out, "comes": _comes, "barred": _barred, "many": _many,
}


def answer_of(shelf, line):
    """The answer to an ask."""
    need_shelf(shelf, "shelf")
    need_first(line, ASKS)
    told = read_line(line)
    need_names(shelf, told)
    ask = ANSWERED_BY[told[0]]
    values = told[1:]
    return ask(shelf, *values)
