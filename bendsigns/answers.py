"""What deeds and asks share: names that are kept or are not, and the texts of answers."""

from bendsigns.desk_lines import names_in, new_in
from bendsigns.errors import Twice

NONE = "-"


def need_names(shelf, told):
    """Raise NoName for the first name of a line that is none on the shelf, Twice for a new one that is."""
    for name in names_in(told):
        shelf.kept(name)
    new = new_in(told)
    if new in shelf.names:
        raise Twice(new)


def row_text(values):
    """The text of several values, with a sign of its own for none."""
    return " ".join([str(value) for value in values]) if values else NONE


def paper_text(paper):
    """The word of a paper, and all integers in its parts, as they stand there."""
    told = [paper.word]
    for part in paper.parts:
        told.extend(part if isinstance(part, tuple) else (part,))
    return row_text(told)
