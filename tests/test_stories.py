"""Stories of desks: replay and parting, and one evening at a desk."""

import time
import unittest

from bendsigns.desk import Desk
from bendsigns.errors import BadDesk, BadLine, BadNumber, BadText, BendError, NoName, Nothing, Twice
from bendsigns.fours import Four
from bendsigns.shelves import Shelf
from bendsigns.stories import parting, replay
from tests.desks import own_answer, own_deed
from tests.helps import ODD_VALUES, Case, Looser, kept, look_alike
from tests.lines import ASK_WORDS, DEED_WORDS

DEEDS = ("four a -1 2 2 3", "turn a 3", "copy b a", "walk b 0 1", "least a", "root c 12 1", "drop b", "join d c c")
EVENING = (
    "names", "four coins -3 5 8 8", "root odd 12 0", "four line 0 1 1 0", "root twelve 12 3", "names", "show odd",
    "walk coins 0 1 2 3", "rim coins", "kind coins", "sign coins", "least coins", "copy second coins", "turn second 1",
    "show second", "rims second", "alike coins second", "least second", "alike coins second", "bars coins", "bars odd",
    "bars line", "fourth odd", "fourth line", "fourth coins", "touch coins 0 12", "touch coins 0 4", "touch line 0 3",
    "out coins 8", "out line 9", "out coins 2", "comes coins 12", "comes coins 29", "comes coins 36", "comes coins 4",
    "comes coins 60", "comes line 4", "barred odd 16", "barred odd 25", "barred line 2", "many coins 60", "many line 60",
    "join both odd twelve", "show both", "sign both", "join worse odd coins", "join worse odd line", "join both odd odd",
    "drop second", "names", "drop second", "least odd", "walk line 1 2 1 3", "rim line", "rims odd", "least line",
    "turn line 1", "show line", "turn line 1", "show line", "walk coins 4", "root more 61 0", "root more 60 99", "names 1",
)


class Replay(Case):
    """replay."""

    def test_lines(self):
        for lines in (DEEDS, list(DEEDS)):
            desk, told = replay(lines), Desk()
            told.told(*DEEDS)
            self.assertIsInstance(desk, Desk)
            self.assertEqual((desk, desk.story, desk.shelf), (told, DEEDS, told.shelf))
        self.assertEqual(replay(lines=DEEDS), told)

    def test_all_can_be_taken_back(self):
        desk = replay(DEEDS)
        self.assert_error(Nothing(), desk.redo)
        self.assertEqual([desk.undo() for line in DEEDS], list(DEEDS[::-1]))
        self.assert_error(Nothing(), desk.undo)
        self.assertEqual(desk, Desk())
        self.assertEqual([desk.redo() for line in DEEDS], list(DEEDS))
        self.assertEqual(desk, replay(DEEDS))

    def test_nothing(self):
        for lines in ((), []):
            desk = replay(lines)
            self.assertEqual((desk, desk.story), (Desk(), ()))
            self.assert_error(Nothing(), desk.undo)

    def test_no_lists(self):
        self.assert_error(BadDesk("lines"), replay, Looser())
        for value in ODD_VALUES + (5, "four a 0 0 1 1", Desk(), DEEDS + (5,), [None], list(DEEDS) + [("names",)],
                                   ["nothing", None], [["four a 0 0 1 1"]], {"four a 0 0 1 1": 1}):
            if value != ["0"]:
                self.assert_error(BadDesk("lines"), replay, value)

    def test_the_first_line_that_raises(self):
        for line, error in (("walk x 0", NoName("x")), ("copy a a", Twice("a")), ("walk a 4", BadText(0, 2)), ("", BadText(0, 0)),
                            ("root e 0 0", BadNumber("rim")), ("four e 1 1 1 1", BadText(0, 5)), ("drop", BadText(0, 1))):
            self.assert_error(BadLine(2, error), replay, (DEEDS[0], DEEDS[1], line) + DEEDS[2:])
            self.assert_error(BadLine(1, error), replay, [DEEDS[0], line, "names", "walk x 0"])
        self.assert_error(BadLine(0, BadText(0, 0)), replay, ["0"])

    def test_asks_within(self):
        for word in ASK_WORDS:
            for line in (word, word + " a", word + " x y z", word + " a 0 5", word + " "):
                self.assert_error(BadLine(1, BadText(0, 0)), replay, [DEEDS[0], line, DEEDS[1]])
                self.assert_error(BadLine(0, BadText(0, 0)), replay, [line, DEEDS[0], "walk x 0"])

    def test_short_time(self):
        began = time.process_time()
        desk = replay(["four a -3 5 8 8"] + ["turn a 0", "least a"] * 2000)
        self.assertEqual(len(desk.story), 4001)
        self.assertEqual(parting(desk, desk.twin()), 4001)
        self.assertLess(time.process_time() - began, 5)


class Parting(Case):
    """parting."""

    def test_stories_that_begin_alike(self):
        for many in range(len(DEEDS) + 1):
            for more in range(len(DEEDS) + 1):
                self.assertEqual(parting(replay(DEEDS[:many]), replay(DEEDS[:more])), min(many, more))
            other = replay(DEEDS[:many] + ("four z 0 0 1 1",) + DEEDS[many:])
            self.assertEqual(parting(one=replay(DEEDS), other=other), many)
            self.assertEqual(parting(other, replay(DEEDS)), many)

    def test_lines_are_compared(self):
        # What is kept is alike, but the lines are not.
        one, other = replay(["four a 0 0 1 1", "drop a"]), replay(["four b 0 0 1 1", "drop b"])
        self.assertEqual((one == other, parting(one, other)), (True, 0))
        desk = replay(DEEDS)
        self.assertEqual(parting(desk, desk), len(DEEDS))
        self.assertEqual(parting(Desk(), desk), 0)

    def test_behind_undo(self):
        one, other = replay(DEEDS), replay(DEEDS)
        one.undo()
        self.assertEqual(parting(one, other), len(DEEDS) - 1)
        one.redo()
        self.assertEqual(parting(one, other), len(DEEDS))

    def test_errors(self):
        for value in ODD_VALUES + (DEEDS, [], Shelf(), None, Looser(), look_alike("Desk", story=(), shelf=Shelf())):
            self.assert_error(BadDesk("one"), parting, value, None)
            self.assert_error(BadDesk("other"), parting, Desk(), value)


class Evening(Case):
    """One evening at a desk, each answer by the functions that the tables name."""

    def test_evening(self):
        words = {line.split(" ")[0] for line in EVENING}
        self.assertEqual(words, set(DEED_WORDS + ASK_WORDS))
        desk, kept_here, story, raised = Desk(), {}, [], 0
        for line in EVENING:
            with self.subTest(line=line):
                try:
                    if line.split(" ")[0] in DEED_WORDS:
                        kept_here, wanted = own_deed(kept_here, line)
                        story.append(line)
                    else:
                        wanted = own_answer(kept_here, line)
                except BendError as error:
                    self.assert_error(error, desk.twin(), line)
                    self.assert_error(error, desk, line)
                    self.assert_error(BadLine(0, error), desk.told, line)
                    raised += 1
                else:
                    self.assertEqual(desk.tried(line), (wanted,))
                    self.assertEqual(desk(line), wanted)
                self.assertEqual((desk.shelf.fours, desk.story), (tuple(kept_here.items()), tuple(story)))
        self.assertGreater(raised, 10)
        self.assertEqual(replay(desk.story), desk)
        self.assertEqual(desk.shelf.kept("coins"), Four((-3, 5, 8, 8)))

    def test_fields_of_errors_that_are_kept(self):
        self.assertNotEqual(kept(BadLine(0, NoName("a"))), kept(BadLine(0, NoName("b"))))
        self.assertNotEqual(kept(BadLine(0, NoName("a"))), kept(BadLine(0, Twice("a"))))
        self.assertEqual(kept(BadLine(0, NoName("a"))), kept(BadLine(0, NoName("a"))))


if __name__ == "__main__":
    unittest.main()
