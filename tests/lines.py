"""Lines of a desk of the tests' own: what stands in which deed and ask, as regular expressions."""

import re

from tests.walks import fits

NAME, PLACE = r"[a-z][a-z0-9]{0,11}", r"[0-3]"
COUNT = r"(0|[1-9][0-9]{0,59})"
INTEGER = r"(0|-?[1-9][0-9]{0,59})"
GRAMMAR = {
    "four": (NAME, INTEGER, INTEGER, INTEGER, INTEGER), "root": (NAME, COUNT, COUNT), "copy": (NAME, NAME),
    "walk": (NAME, PLACE), "turn": (NAME, PLACE), "least": (NAME,), "join": (NAME, NAME, NAME), "drop": (NAME,),
    "names": (), "show": (NAME,), "rim": (NAME,), "kind": (NAME,), "sign": (NAME,), "fourth": (NAME,), "rims": (NAME,),
    "bars": (NAME,), "alike": (NAME, NAME), "touch": (NAME, PLACE, INTEGER), "out": (NAME, COUNT),
    "comes": (NAME, COUNT), "barred": (NAME, COUNT), "many": (NAME, COUNT),
}
DEED_WORDS = ("four", "root", "copy", "walk", "turn", "least", "join", "drop")
ASK_WORDS = tuple(word for word in GRAMMAR if word not in DEED_WORDS)
# A line of each deed and ask, as a and b are kept.
SAMPLES = (
    "four new -3 5 8 8", "root new 3 0", "copy new a", "walk a 0 3 1", "turn a 2", "least b", "join new a b", "drop a",
    "names", "show a", "rim a", "kind b", "sign a", "fourth b", "rims a", "bars b", "alike a b", "touch a 1 -2",
    "out a 8", "comes a 12", "barred a 36", "many b 60",
)


def first_wrong(line):
    """The index of the first item that cannot stand, None if the line can stand."""
    if not isinstance(line, str):
        return 0
    items = line.split(" ")
    if items[0] not in GRAMMAR:
        return 0
    wanted = list(GRAMMAR[items[0]])
    if items[0] == "walk":
        wanted += [PLACE] * (len(items) - 3)
    for index, item in enumerate(items[1:], 1):
        if index > len(wanted) or not re.fullmatch(wanted[index - 1], item):
            return index
    if len(items) <= len(wanted):
        return len(items)
    if items[0] == "four" and not fits(tuple(int(item) for item in items[2:])):
        return 5
    return None


def varied(line, extras):
    """A line with one item put in, left out, exchanged or doubled at any place."""
    items = line.split(" ")
    for at in range(len(items) + 1):
        for extra in extras:
            yield " ".join(items[:at] + [extra] + items[at:])
            if at < len(items):
                yield " ".join(items[:at] + [extra] + items[at + 1:])
        if at < len(items):
            yield " ".join(items[:at] + items[at + 1:])
            yield " ".join(items[:at] + [items[at]] + items[at:])
        for other in range(at):
            if at < len(items):
                turned = list(items)
                turned[at], turned[other] = turned[other], turned[at]
                yield " ".join(turned)
