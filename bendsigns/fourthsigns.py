"""Fourth signs: a second sign of some fours, told by the lead of any odd circle with a coprime one."""

from bendsigns.checks import is_integer
from bendsigns.errors import BadNumber, Misfit
from bendsigns.fans import first_coprime
from bendsigns.fours import Four, bends_after, need_four
from bendsigns.fourthsymbols import fourth_symbol
from bendsigns.kinds import kind_of
from bendsigns.leads import lead
from bendsigns.pairs import Pair
from bendsigns.papers import Paper
from bendsigns.signs import sign


class FourthSign(Paper):
    """The fourth sign of a four, the word to a circle, and the places of a coprime pair there, the odd one first."""

    def __init__(self, value, letters, place, at):
        Paper.__init__(self, "fourthsign", value, letters, place, at)
        self.value, self.letters, self.place, self.at = self.parts


def _need_fourth_sign(four):
    """Raise Misfit for a four that has no fourth sign."""
    if kind_of(four).odd != 1:
        raise Misfit("kind")
    if sign(four).value == -1:
        raise Misfit("sign")


def fourth_sign(four):
    """The FourthSign of a four."""
    need_four(four, "four")
    _need_fourth_sign(four)
    place = [at for at in range(4) if four.bends[at] % 2 == 1][0]
    here = four.bends[place]
    letters, at, _ = first_coprime(four, place, (place + 1) % 4, here)
    then = Four(bends_after(four.bends, letters))
    # With the sign 1 the symbol is 0 or 2.
    value = 1 if fourth_symbol(lead(then, place, at), Pair(here, 0)) == 0 else -1
    return FourthSign(value, letters, place, at)


def fourth_turn(bend):
    """1 if a four keeps its fourth sign when it is turned at this bend, which 4 divides, otherwise -1."""
    if not is_integer(bend) or bend % 4 != 0:
        raise BadNumber("bend")
    return 1 if bend % 8 == 0 else -1
