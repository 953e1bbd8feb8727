"""Stories: desks made of their deeds, and where two stories part."""

from bendsigns.desk import Desk, need_desk
from bendsigns.desk_lines import DEEDS, need_first
from bendsigns.errors import BadDesk, BadLine, BendError


def replay(lines):
    """A new Desk to which these deeds are told."""
    if not isinstance(lines, (list, tuple)) or not all([isinstance(line, str) for line in lines]):
        raise BadDesk("lines")
    desk = Desk()
    for index, line in enumerate(lines):
        try:
            need_first(line, DEEDS)
            desk(line)
        except BendError as error:
            raise BadLine(index, error) from None
    return desk


def parting(one, other):
    """How many lines at their beginnings the stories of two desks have alike."""
    need_desk(one, "one")
    need_desk(other, "other")
    many = 0
    for line, other_line in zip(one.story, other.story):
        if line != other_line:
            return many
        many += 1
    return many
