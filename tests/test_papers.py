"""Papers and denials: words, parts, attributes, truth, equality."""

import unittest

from bendsigns.fans import Between
from bendsigns.fours import Four
from bendsigns.fourthsigns import FourthSign
from bendsigns.fourthsymbols import FourthSteps
from bendsigns.leastforms import AlikeForms, LeastForm, UnlikeForms
from bendsigns.leasts import Alike, Least, Unlike
from bendsigns.papers import Denial, Paper, fixed, is_just
from bendsigns.pedigrees import Pedigree
from bendsigns.rests import Met, Unmet
from bendsigns.signs import Sign
from bendsigns.squares import NoRoot, RootOf
from bendsigns.symbols import Steps
from bendsigns.touching import Touching, Untouched, Way
from bendsigns.verdicts import ByFourth, ByList, ByRest, BySign, Comes
from tests.helps import ODD_VALUES, Case, Looser, look_alike

CLASSES = (
    (Least, Paper, "least", ("four", "letters")), (Alike, Paper, "alike", ("places",)),
    (Unlike, Denial, "unlike", ("bends", "other_bends")), (LeastForm, Paper, "leastform", ("form", "change")),
    (AlikeForms, Paper, "alikeforms", ("change",)), (UnlikeForms, Denial, "unlikeforms", ("form", "other_form")),
    (Way, Paper, "way", ("letters", "at")), (Touching, Paper, "touching", ("x", "y")),
    (Untouched, Denial, "untouched", ("forms",)), (Pedigree, Paper, "pedigree", ("rims", "base", "steps")),
    (Met, Paper, "met", ("letters",)), (Unmet, Denial, "unmet", ("by",)), (Steps, Paper, "steps", ("rows", "value")),
    (Between, Paper, "between", ("letters", "at")), (Sign, Paper, "sign", ("value", "letters", "place", "at")),
    (FourthSteps, Paper, "fourthsteps", ("rows", "value")),
    (FourthSign, Paper, "fourthsign", ("value", "letters", "place", "at")), (RootOf, Paper, "rootof", ("form",)),
    (NoRoot, Denial, "noroot", ("by",)), (Comes, Paper, "comes", ("letters", "place")),
    (ByRest, Denial, "byrest", ("rest",)), (BySign, Denial, "bysign", ("k", "root")),
    (ByFourth, Denial, "byfourth", ("k", "root")), (ByList, Denial, "bylist", ("many",)),
)


class Fixed(Case):
    """Tuples in the place of lists."""

    def test_lists_become_tuples(self):
        for value, wanted in (
            ([], ()), ((), ()), ([1, [2, (3, [4])]], (1, (2, (3, (4,))))), (([],), ((),)), ("ab", "ab"), (True, True),
        ):
            self.assertEqual(fixed(value), wanted)
            self.assertIs(type(fixed(value)), type(wanted))

    def test_other_values_stay(self):
        for value in (None, True, 5, "a", b"a", {0: [1]}, {1}, object(), Four([-3, 5, 8, 8])):
            self.assertIs(fixed(value), value)
            self.assertIs(fixed([[value]])[0][0], value)

    def test_deep_and_wide(self):
        value, wanted = [0], (0,)
        for turn in range(29):
            value, wanted = [value], (wanted,)
        self.assertEqual(fixed(value), wanted)
        self.assertEqual(fixed([[1]] * 4000), ((1,),) * 4000)


class Just(Case):
    """Whether a value is just some integers."""

    def test_numbers(self):
        for value, wanted, right in (
            (1, 1, True), (True, 1, False), (1.0, 1, False), (2, 1, False), ("1", 1, False), (None, None, True),
            (0, None, False), (False, None, False), (None, 0, False), ((1,), 1, False), (1, (1,), False),
            ((), (), True), ([], (), False), ((1, (2, None)), (1, (2, None)), True), ((1, (2, 0)), (1, (2, None)), False),
            ((1, 2), (1, 2, 3), False), ((1, 2, 3), (1, 2), False), ((1, True), (1, 1), False), ("ab", (1, 2), False),
            ((1, (True, 2)), (1, (1, 2)), False), (Looser(), 1, False), (Looser(), (1,), False), ((Looser(),), (1,), False),
            (Looser(), None, False),
        ):
            self.assertIs(is_just(value, wanted), right, (value, wanted))


class Papers(Case):
    """Paper and Denial themselves."""

    def test_parts(self):
        for made, truth in ((Paper, True), (Denial, False)):
            paper = made("note", 1, [2, [3]], None)
            self.assertEqual((paper.word, paper.parts), ("note", (1, (2, (3,)), None)))
            self.assertIs(bool(paper), truth)
            self.assertEqual(made("note").parts, ())
            self.assertEqual(made(word="note").word, "note")
        self.assertTrue(issubclass(Denial, Paper))

    def test_what_is_changed_later(self):
        rows = [1, [2]]
        paper = Paper("note", rows)
        rows.append(3)
        rows[1].append(4)
        self.assertEqual(paper.parts, ((1, (2,)),))

    def test_equality(self):
        note = Paper("note", 1, [2])
        self.assert_true(note == Paper("note", 1, (2,)))
        self.assert_true(note == Paper("note", True, (2,)))
        self.assert_false(note != Paper("note", 1, (2,)))
        for other in (Paper("not", 1, [2]), Paper("note", 1), Paper("note", [1, 2]), Paper("note", 2, [2]),
                      Denial("note", 1, [2]), ("note", 1, (2,)), "note", None, True, Looser(),
                      look_alike("Paper", word="note", parts=(1, (2,)))):
            self.assert_false(note == other)
            self.assert_true(note != other)
        self.assert_true(Denial("no") == Denial("no"))
        self.assert_false(Denial("no") == Paper("no"))
        self.assert_false(Paper("no") == Denial("no"))


class Classes(Case):
    """All classes of papers."""

    def test_parts_and_attributes(self):
        values = ([1, [2]], ("x", [None]), [[[]]], [0, True])
        told = ((1, (2,)), ("x", (None,)), (((),),), (0, True))
        for made, base, word, names in CLASSES:
            count = len(names)
            for paper in (made(*values[:count]), made(**dict(zip(names, values)))):
                self.assertEqual(paper.word, word)
                self.assertEqual(paper.parts, told[:count])
                self.assertEqual(tuple(getattr(paper, name) for name in names), told[:count])
                self.assertIs(bool(paper), base is Paper)
                self.assertEqual(isinstance(paper, Denial), base is Denial)
                self.assertIsInstance(paper, Paper)

    def test_any_values(self):
        for made, base, word, names in CLASSES:
            for value in ODD_VALUES:
                paper = made(*[value for name in names])
                self.assertEqual(paper.parts, tuple(fixed(value) for name in names))

    def test_equality(self):
        for made, base, word, names in CLASSES:
            values = [[1], [2], [3], [4]][:len(names)]
            paper = made(*values)
            self.assert_true(paper == made(*[tuple(value) for value in values]))
            self.assert_false(paper == made(*[[9] for value in values]))
            self.assert_false(paper == base(word, *values))
            self.assert_false(base(word, *values) == paper)
            below = type("Below", (made,), {})
            self.assert_false(paper == below(*values))
            self.assert_false(below(*values) == paper)

    def test_what_is_changed_later(self):
        letters = [0, [1]]
        paper = Least(None, letters)
        letters[1].append(2)
        letters.clear()
        self.assertEqual((paper.letters, paper.parts), ((0, (1,)), (None, (0, (1,)))))


if __name__ == "__main__":
    unittest.main()
