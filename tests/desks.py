"""A desk of the tests' own: each deed and ask by the functions that the document's tables name."""

from bendsigns.errors import BadNumber, BadText, NoName, TooMany, Twice
from bendsigns.families import families
from bendsigns.fours import Four
from bendsigns.fourthfamilies import fourth_families
from bendsigns.fourthsigns import fourth_sign
from bendsigns.kinds import kind_of
from bendsigns.leasts import alike, least, rim
from bendsigns.lists import circles
from bendsigns.pedigrees import pedigree
from bendsigns.products import gasket_product
from bendsigns.rims import rim_fours
from bendsigns.signs import sign
from bendsigns.touching import touches
from bendsigns.turned import turned, turned_out
from bendsigns.verdicts import barred, verdict
from tests.fourths import what_is_missing
from tests.lines import DEED_WORDS, GRAMMAR, first_wrong
from tests.walks import lowered

# At which indexes of a line NAME and OTHER stand; NEW stands at 1 where 1 is not among them.
NAMES_AT = {"four": (), "root": (), "copy": (2,), "join": (2, 3), "alike": (1, 2), "names": ()}
NEW = ("four", "root", "copy", "join")


def row(values):
    """Numbers or words with single blanks between, or the sign of none."""
    return " ".join(str(value) for value in values) or "-"


def flat(parts):
    """All integers in the parts of a paper."""
    for part in parts:
        yield from flat(part) if isinstance(part, tuple) else (part,)


def checked(kept, line, words):
    """The items of a line, or what is wrong with it as far as the line and the names tell."""
    if not isinstance(line, str) or line.split(" ")[0] not in words:
        raise BadText(0, 0)
    if first_wrong(line) is not None:
        raise BadText(0, first_wrong(line))
    items = line.split(" ")
    for at in NAMES_AT.get(items[0], (1,)):
        if items[at] not in kept:
            raise NoName(items[at])
    if items[0] in NEW and items[1] in kept:
        raise Twice(items[1])
    return items


def own_deed(kept, line):
    """What is kept behind a deed, a dict of fours by their names, and the answer."""
    items = checked(kept, line, DEED_WORDS)
    word, name = items[:2]
    then = dict(kept)
    if word == "drop":
        del then[name]
        return then, str(len(then))
    if word == "four":
        four = Four([int(item) for item in items[2:]])
    if word == "root":
        fours = rim_fours(int(items[2]))
        if int(items[3]) >= len(fours):
            raise BadNumber("index")
        four = fours[int(items[3])]
    if word == "copy":
        four = kept[items[2]]
    if word == "walk":
        four = kept[name].after([int(item) for item in items[2:]])
    if word == "turn":
        four = turned(kept[name], int(items[2]))
    if word == "least":
        four = least(kept[name]).four
    if word == "join":
        four = gasket_product(kept[items[2]], kept[items[3]])
    if max(len(str(abs(bend))) for bend in four.bends) > 60:
        raise TooMany("digits", 60)
    then[name] = four
    answers = {"four": four.total, "least": row(least(kept[name]).letters) if word == "least" else None}
    return then, str(answers.get(word, row(four.bends)))


def own_answer(kept, line):
    """The answer to an ask."""
    items = checked(kept, line, tuple(word for word in GRAMMAR if word not in DEED_WORDS))
    word, rest = items[0], items[2:]
    if word == "names":
        return row(kept)
    four = kept[items[1]]
    if word == "touch":
        told = touches(four, int(rest[0]), int(rest[1]))
        return f"touching {told.x} {told.y}" if told.word == "touching" else "untouched"
    if word == "bars":
        fourths = () if what_is_missing(lowered(four.bends)[0]) else fourth_families(four)
        return f"{row(families(four))} / {row(fourths)}"
    if word == "out":
        return " / ".join(row(bends) for bends in turned_out(four, int(rest[0]))) or "-"
    if word in ("comes", "barred"):
        told = (verdict if word == "comes" else barred)(four, int(rest[0]))
        return "-" if told is None else row((told.word,) + tuple(flat(told.parts)))
    plain = {
        "show": lambda: row(four.bends), "rim": lambda: rim(four), "sign": lambda: sign(four).value,
        "kind": lambda: f"{kind_of(four).odd} {kind_of(four).third}", "fourth": lambda: fourth_sign(four).value,
        "rims": lambda: row(pedigree(four).rims), "alike": lambda: alike(four, kept[rest[0]]).word,
        "many": lambda: len(circles(four, int(rest[0]))),
    }
    return str(plain[word]())
