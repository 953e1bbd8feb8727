"""A desk: lines, answers, what is taken back and done again, tries and twins."""

import time
import unittest

from bendsigns.desk import Desk
from bendsigns.errors import BadLine, BadNumber, BadText, BendError, Flat, Misfit, NoName, Nothing, TooMany, Twice
from bendsigns.fours import Four
from bendsigns.shelves import Shelf
from tests.desks import own_answer, own_deed
from tests.helps import ODD_VALUES, Case, Looser, look_alike
from tests.lines import DEED_WORDS

COINS = Four((-3, 5, 8, 8))
LINES = (
    "four a -3 5 8 8", "names", "walk a 2 3", "four b -12 25 25 28", "copy c a", "turn c 0", "show c", "least a", "drop b",
    "root b 12 1", "join d b b", "comes a 12", "alike a c",
)


def told_desk(*lines):
    """A desk to which lines were told."""
    desk = Desk()
    for line in lines:
        desk(line)
    return desk


def state(desk):
    """All that a desk shows, also of what can be taken back and done again."""
    twin, backs, ons = desk.twin(), [], []
    while True:
        try:
            ons.append((twin.redo(), twin.shelf.fours))
        except Nothing:
            break
    twin = desk.twin()
    while True:
        try:
            backs.append((twin.undo(), twin.shelf.fours))
        except Nothing:
            break
    return desk.shelf.fours, desk.story, backs, ons


class Lines(Case):
    """Lines that are told."""

    def test_a_new_desk(self):
        desk = Desk()
        self.assertEqual((desk.shelf, desk.story, len(desk), desk("names")), (Shelf(), (), 0, "-"))
        self.assertIsInstance(desk.shelf, Shelf)
        self.assertIs(type(desk.story), tuple)
        self.assertEqual(desk.told(), ())
        self.assertEqual(desk.tried(), ())

    def test_against_an_own_desk(self):
        kept, story, desk, every = {}, [], Desk(), Desk()
        answers = []
        for line in LINES:
            if line.split(" ")[0] in DEED_WORDS:
                kept, answer = own_deed(kept, line)
                story.append(line)
            else:
                answer = own_answer(kept, line)
            answers.append(answer)
            self.assertEqual(desk(line), answer)
            self.assertEqual(desk.shelf.fours, tuple(kept.items()))
            self.assertEqual(desk.story, tuple(story))
            self.assertEqual(len(desk), len(kept))
        told = every.told(*LINES)
        self.assertEqual(told, tuple(answers))
        self.assertIs(type(told), tuple)
        self.assertEqual(state(every), state(desk))

    def test_one_line_raises(self):
        desk = told_desk("four a -3 5 8 8", "turn a 0", "copy b a")
        desk.undo()
        before = state(desk)
        for line, error in (
            ("walk b 0", NoName("b")), ("copy a a", Twice("a")), ("four a 0 0 1 1", Twice("a")), ("four x -3 5 8 9", BadText(0, 5)),
            ("names a", BadText(0, 1)), ("", BadText(0, 0)), ("root x 61 0", BadNumber("rim")), ("comes a 301", BadNumber("number")),
            ("fourth a", Misfit("kind")), ("walk a" + " 0" * 201, TooMany("letters", 200)), ("root x 1 1", BadNumber("index")),
        ):
            self.assert_error(error, desk, line)
            self.assert_error(BadLine(0, error), desk.told, line)
            self.assert_error(BadLine(2, error), desk.told, "walk a 1", "names", line, "drop a")
            self.assert_error(BadLine(1, error), desk.tried, "four new 0 0 1 1", line)
            self.assertEqual(state(desk), before)
        self.assert_error(BadLine(3, Flat()), desk.told, "four f 0 0 1 1", "rims f", "rim f", "comes f 1", "nothing")
        self.assert_error(BadLine(1, NoName("a")), desk.told, "drop a", "show a")
        self.assertEqual(state(desk), before)

    def test_lines_that_are_no_strings(self):
        desk = told_desk("four a -3 5 8 8")
        before = state(desk)
        for value in ODD_VALUES + (5, ("names",), ["show", "a"], Looser(), COINS, desk):
            if not isinstance(value, str):
                self.assert_error(BadText(0, 0), desk, value)
                self.assert_error(BadLine(0, BadText(0, 0)), desk.told, value)
                self.assert_error(BadLine(1, BadText(0, 0)), desk.told, "drop a", value)
                self.assert_error(BadLine(1, BadText(0, 0)), desk.tried, "drop a", value)
        self.assertEqual(state(desk), before)

    def test_the_error_of_a_line(self):
        desk = Desk()
        with self.assertRaises(BadLine) as caught:
            desk.told("four a 0 0 1 1", "show b")
        self.assertEqual((caught.exception.line, type(caught.exception.error)), (1, NoName))
        self.assertEqual(caught.exception.error.value, "b")
        self.assertIsInstance(caught.exception.error, BendError)

    def test_deeds_that_change_nothing(self):
        desk = told_desk("four a -3 5 8 8", "least a", "walk a 0 0", "names")
        self.assertEqual(desk.story, ("four a -3 5 8 8", "least a", "walk a 0 0"))
        self.assertEqual([desk.undo(), desk.undo()], ["walk a 0 0", "least a"])

    def test_line_by_name(self):
        desk = Desk()
        self.assertEqual(desk(line="four a 0 0 1 1"), "2")


class Back(Case):
    """undo and redo."""

    def test_to_the_beginning_and_back(self):
        desk = told_desk(*LINES)
        deeds = desk.story
        fours = [told_desk(*deeds[:many]).shelf.fours for many in range(len(deeds) + 1)]
        for many in range(len(deeds), 0, -1):
            self.assertEqual(desk.undo(), deeds[many - 1])
            self.assertEqual((desk.shelf.fours, desk.story), (fours[many - 1], deeds[:many - 1]))
        self.assert_error(Nothing(), desk.undo)
        self.assertEqual((desk.shelf, desk.story, desk("names")), (Shelf(), (), "-"))
        for many in range(len(deeds)):
            self.assertEqual(desk.redo(), deeds[many])
            self.assertEqual((desk.shelf.fours, desk.story), (fours[many + 1], deeds[:many + 1]))
        self.assert_error(Nothing(), desk.redo)
        self.assertEqual(desk.story, deeds)

    def test_nothing(self):
        desk = Desk()
        for call in (desk.undo, desk.redo):
            self.assert_error(Nothing(), call)
        desk("names")
        self.assert_error(Nothing(), desk.undo)
        desk("four a 0 0 1 1")
        self.assert_error(Nothing(), desk.redo)
        self.assertEqual(desk.undo(), "four a 0 0 1 1")
        self.assert_error(Nothing(), desk.undo)
        self.assertEqual(desk.redo(), "four a 0 0 1 1")
        self.assert_error(Nothing(), desk.redo)

    def test_another_deed(self):
        for later in ("walk a 1", "four c 0 0 1 1", "least a", "walk a 0 0"):
            for call in ("call", "told"):
                desk = told_desk("four a -3 5 8 8", "copy b a", "turn a 0")
                desk.undo()
                desk.undo()
                if call == "call":
                    desk(later)
                else:
                    desk.told("names", later)
                self.assert_error(Nothing(), desk.redo)
                self.assertEqual(desk.story, ("four a -3 5 8 8", later))
                self.assertEqual(desk.undo(), later)
                self.assertEqual(desk.redo(), later)
        # The same deed once more is another one, too.
        desk = told_desk("four a -3 5 8 8", "copy b a", "turn a 0")
        desk.undo()
        desk.undo()
        desk("copy b a")
        self.assert_error(Nothing(), desk.redo)

    def test_what_does_not_matter(self):
        desk = told_desk("four a -3 5 8 8", "copy b a", "turn a 0")
        desk.undo()
        desk.undo()
        desk("names")
        desk.told("names", "show a")
        desk.tried("drop a", "names")
        desk.told()
        desk.twin()("drop a")
        for line in ("drop b", "four a 0 0 1 1", "walk a", None, ""):
            with self.assertRaises(BendError):
                desk(line)
            with self.assertRaises(BadLine):
                desk.told("walk a 0", line)
            with self.assertRaises(BadLine):
                desk.tried("walk a 0", line)
        self.assertEqual([desk.redo(), desk.redo()], ["copy b a", "turn a 0"])
        self.assertEqual(desk.told("show a", "show b"), ("3 -1 2 2", "-3 5 8 8"))

    def test_back_and_forth(self):
        desk = told_desk("four a -3 5 8 8", "turn a 0", "turn a 1")
        self.assertEqual([desk.undo(), desk.redo(), desk.undo(), desk.undo(), desk.redo()],
                         ["turn a 1", "turn a 1", "turn a 1", "turn a 0", "turn a 0"])
        self.assertEqual(desk.story, ("four a -3 5 8 8", "turn a 0"))
        self.assertEqual(desk("show a"), "3 -1 2 2")
        self.assertEqual(desk.redo(), "turn a 1")

    def test_a_dropped_four_comes_back_to_its_place(self):
        desk = told_desk("four a 0 0 1 1", "four b -3 5 8 8", "four c -1 2 2 3", "drop b")
        self.assertEqual(desk("names"), "a c")
        desk.undo()
        self.assertEqual(desk("names"), "a b c")
        desk.told("drop b", "four b -3 5 8 8")
        self.assertEqual(desk("names"), "a c b")


class Tries(Case):
    """tried and twin."""

    def test_tried(self):
        desk = told_desk("four a -3 5 8 8", "copy b a")
        desk.undo()
        before = state(desk)
        told = desk.tried("turn a 0", "show a", "drop a", "names")
        self.assertEqual(told, ("3 -1 2 2", "3 -1 2 2", "0", "-"))
        self.assertIs(type(told), tuple)
        self.assertEqual(state(desk), before)
        self.assertEqual(desk.told("turn a 0", "show a", "drop a", "names"), told)

    def test_twin(self):
        desk = told_desk("four a -3 5 8 8", "turn a 0", "copy b a")
        desk.undo()
        before = state(desk)
        twin = desk.twin()
        self.assertIsInstance(twin, Desk)
        self.assertIsNot(twin, desk)
        self.assertEqual(state(twin), before)
        twin.told("four c 0 0 1 1", "drop a")
        self.assertEqual(state(desk), before)
        desk.redo()
        self.assertEqual((desk("names"), twin("names")), ("a b", "c"))
        self.assertEqual([twin.undo(), twin.undo(), twin.undo()], ["drop a", "four c 0 0 1 1", "turn a 0"])
        self.assertEqual(desk.story, ("four a -3 5 8 8", "turn a 0", "copy b a"))
        self.assertEqual(desk.undo(), "copy b a")

    def test_own_undo_and_redo_of_a_twin(self):
        desk = told_desk("four a -3 5 8 8", "turn a 0", "copy b a")
        twin = desk.twin()
        self.assertEqual([twin.undo(), twin.undo()], ["copy b a", "turn a 0"])
        self.assert_error(Nothing(), desk.redo)
        other = twin.twin()
        self.assertEqual([other.redo(), other.redo()], ["turn a 0", "copy b a"])
        self.assertEqual(twin.redo(), "turn a 0")
        other("drop a")
        self.assertEqual(twin.redo(), "copy b a")
        self.assert_error(Nothing(), twin.redo)
        self.assertEqual(desk, twin)


class Values(Case):
    """len, in, ==, truth of a desk."""

    def test_in(self):
        desk = told_desk("four a -3 5 8 8", "four b1 0 0 1 1")
        for name in ("a", "b1"):
            self.assert_true(name in desk)
        for value in ODD_VALUES + ("b", "A", "a ", "a b1", "", 0, 1, COINS, ("a",), ["a"], Looser(), ("a", COINS), desk):
            self.assert_false(value in desk)
        desk("drop a")
        self.assert_false("a" in desk)
        desk.undo()
        self.assert_true("a" in desk)

    def test_len(self):
        desk = Desk()
        for many in range(5):
            self.assertEqual(len(desk), many)
            desk(f"four n{many} 0 0 1 1")
        desk("drop n2")
        self.assertEqual(len(desk), 4)

    def test_equality(self):
        one, other = told_desk("four a -3 5 8 8"), told_desk("four a 5 -3 8 8", "drop a", "four a -3 5 8 8", "least a")
        self.assert_true(one == other)
        self.assert_false(one != other)
        self.assert_true(Desk() == Desk())
        self.assert_true(one == one.twin())
        for value in (Desk(), told_desk("four b -3 5 8 8"), told_desk("four a 5 -3 8 8"), one.shelf, one.story, None, Looser(),
                      told_desk("four a -3 5 8 8", "copy b a"), look_alike("Desk", shelf=one.shelf, story=one.story)):
            self.assert_false(one == value)
            self.assert_true(one != value)
        self.assert_false(told_desk("four a 0 0 1 1", "four b -1 2 2 3") == told_desk("four b -1 2 2 3", "four a 0 0 1 1"))

    def test_shelves_stay(self):
        desk = told_desk("four a -3 5 8 8")
        shelf, story = desk.shelf, desk.story
        desk.told("turn a 0", "copy b a")
        self.assertEqual((shelf, story), (Shelf([("a", COINS)]), ("four a -3 5 8 8",)))

    def test_short_time(self):
        began = time.process_time()
        desk = Desk()
        desk.told("four a -3 5 8 8", *["turn a 0"] * 3000)
        for turn in range(1000):
            desk("walk a 1 1")
            desk("names")
        for at in range(1000):
            desk(f"copy n{at} a")
        for turn in range(5001):
            desk.undo()
        for turn in range(5001):
            desk.redo()
        self.assertEqual((len(desk.story), len(desk)), (5001, 1001))
        self.assertLess(time.process_time() - began, 5)


if __name__ == "__main__":
    unittest.main()
