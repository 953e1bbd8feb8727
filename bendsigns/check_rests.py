"""Checking the papers of rows that come or do not."""

from bendsigns.checks import is_integer, is_word
from bendsigns.fours import need_four
from bendsigns.papers import is_named
from bendsigns.rests import Met, Unmet, comes, exchanged_row, need_modulus, need_row, pillars, row_of


def _leads(four, modulus, letters, row):
    """Whether a word leads from a four to one with this row, by rests alone, as words may be long."""
    now = row_of(four.bends, modulus)
    for place in letters:
        now = exchanged_row(now, place, modulus)
    return now == tuple(row)


def shows_met(four, modulus, row, value):
    """Whether a value is a right Met or Unmet of this row."""
    need_four(four, "four")
    need_modulus(modulus)
    need_row(row, modulus)
    if isinstance(value, Met) and is_named(value, "Met"):
        return is_word(value.letters) and _leads(four, modulus, value.letters, row)
    if isinstance(value, Unmet) and is_named(value, "Unmet"):
        if not is_integer(value.by) or value.by not in pillars(modulus):
            return False
        return not comes(four, value.by, row)
    return False
