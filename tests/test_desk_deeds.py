"""Deeds: what they leave behind, what they answer, and their errors."""

import itertools
import time
import unittest

from bendsigns.desk_deeds import changed
from bendsigns.errors import BadDesk, BadNumber, BadText, BendError, Flat, Misfit, NoName, TooMany, Twice
from bendsigns.fours import Four
from bendsigns.rims import rim_fours
from bendsigns.shelves import Shelf
from tests.desks import own_deed
from tests.helps import ODD_VALUES, Case, Looser, look_alike
from tests.lines import ASK_WORDS, DEED_WORDS, SAMPLES, varied
from tests.walks import lowered, turn, walked

COINS, ODD, FLAT = Four((-3, 5, 8, 8)), Four((-12, 25, 25, 28)), Four((0, 0, 1, 1))
TWELVE = Four((17, -12, 44, 41))
FAR = Four(walked(COINS.bends, (0, 1, 2, 3)))
FOURS = (("a", COINS), ("b", ODD), ("f", FLAT), ("t", TWELVE), ("far", FAR))
SHELF = Shelf(FOURS)
DEED_LINES = tuple(line for line in SAMPLES if line.split(" ")[0] in DEED_WORDS)
DIGITS = "9" * 60


class Deeds(Case):
    """changed."""

    def check(self, line, fours=FOURS):
        """The shelf, the answer or the error, and that the shelf that was passed stays."""
        shelf = Shelf(fours)
        try:
            wanted = own_deed(dict(fours), line)
        except BendError as error:
            self.assert_error(error, changed, shelf, line)
        else:
            told = changed(shelf, line)
            self.assertIs(type(told), tuple)
            later, answer = told
            self.assertIsInstance(later, Shelf)
            self.assertEqual(later.fours, tuple(wanted[0].items()))
            self.assertEqual(later.names, tuple(wanted[0]))
            self.assertEqual(answer, wanted[1])
            self.assertIs(type(answer), str)
        self.assertEqual((shelf.fours, shelf.names), (tuple(fours), tuple(name for name, _ in fours)))

    def test_samples(self):
        for line in DEED_LINES:
            self.check(line)
        for name, word in itertools.product(("a", "b", "f", "t", "far", "x"), DEED_WORDS):
            for line in (f"{word} {name}", f"{word} {name} 2", f"{word} new {name}", f"{word} new {name} b",
                         f"{word} {name} {name}", f"{word} new b {name}", f"{word} {name} 12 0", f"{word} {name} a b"):
                self.check(line)

    def test_what_stands_in_lines(self):
        for line in DEED_LINES:
            for other in varied(line, ("", "a", "b", "x", "far", "0", "3", "4", "12", "-1", "-0", "four", "a_")):
                self.check(other)

    def test_four(self):
        self.assertEqual(changed(SHELF, "four new -3 5 8 8")[1], "18")
        self.assertEqual(changed(shelf=SHELF, line="four new 0 1 0 1")[0], Shelf(FOURS + (("new", Four((0, 1, 0, 1))),)))
        big = int("9" * 29)
        bends = (-big, big + 1, big * big + big, big * big + big + 1)
        later, answer = changed(SHELF, "four new " + " ".join(str(bend) for bend in bends))
        self.assertEqual((later.kept("new").bends, answer), (bends, str(sum(bends))))

    def test_a_total_of_more_digits(self):
        # Bends of 60 digits whose sum has 61: only what is kept is bounded.
        rim = 8 * 10 ** 29
        bends = (-rim, rim + 1, rim * rim + rim, rim * rim + rim + 1)
        answer = changed(Shelf(), "four a " + " ".join(str(bend) for bend in bends))[1]
        self.assertEqual((answer, len(answer)), (str(sum(bends)), 61))

    def test_root(self):
        for rim in (1, 2, 12, 59, 60):
            fours = rim_fours(rim)
            for index, four in enumerate(fours):
                later, answer = changed(SHELF, f"root new {rim} {index}")
                self.assertEqual((later.kept("new"), answer), (four, str(four)))
            for index in (len(fours), len(fours) + 1, DIGITS):
                self.assert_error(BadNumber("index"), changed, SHELF, f"root new {rim} {index}")
        for rim in (0, 61, 100, DIGITS):
            for index in (0, 99):
                self.assert_error(BadNumber("rim"), changed, SHELF, f"root new {rim} {index}")
        self.assert_error(Twice("a"), changed, SHELF, "root a 0 0")
        self.assert_error(BadText(0, 2), changed, SHELF, "root a -1 0")

    def test_copy_and_drop(self):
        self.assertEqual(changed(SHELF, "copy c b"), (Shelf(FOURS + (("c", ODD),)), str(ODD)))
        self.assertEqual(changed(SHELF, "drop b"), (Shelf(FOURS[:1] + FOURS[2:]), "4"))
        self.assertEqual(changed(Shelf([("a", COINS)]), "drop a"), (Shelf(), "0"))
        self.assert_error(NoName("x"), changed, SHELF, "copy a x")
        self.assert_error(Twice("a"), changed, SHELF, "copy a a")
        self.assert_error(Twice("a"), changed, SHELF, "copy a b")
        self.assert_error(NoName("x"), changed, SHELF, "copy x x")
        self.assert_error(NoName("x"), changed, SHELF, "drop x")

    def test_walk_and_turn(self):
        later, answer = changed(SHELF, "walk b 0 3 1")
        self.assertEqual(later.names, SHELF.names)
        self.assertEqual(later.kept("b").bends, walked(ODD.bends, (0, 3, 1)))
        self.assertEqual(answer, str(later.kept("b")))
        for name, four in FOURS:
            for place in range(4):
                self.assertEqual(changed(SHELF, f"turn {name} {place}")[0].kept(name).bends, turn(four.bends, place))
        self.assert_error(TooMany("letters", 200), changed, SHELF, "walk a" + " 0 1" * 100 + " 0")
        self.assertEqual(changed(SHELF, "walk a" + " 0 0" * 100), (SHELF, str(COINS)))
        self.assert_error(NoName("x"), changed, SHELF, "walk x" + " 0" * 201)
        self.assert_error(BadText(0, 202), changed, SHELF, "walk x" + " 0" * 200 + " 4")

    def test_least(self):
        self.assertEqual(changed(SHELF, "least far"), (Shelf(FOURS[:-1] + (("far", COINS),)), "0 1 2 3"))
        self.assertEqual(changed(SHELF, "least a"), (SHELF, "-"))
        slow = (0, 1) * 100
        for letters, error in ((slow, None), ((1,) + slow, TooMany("letters", 200))):
            four = Four(walked(COINS.bends, letters))
            self.assertEqual(lowered(four.bends), (COINS.bends, letters))
            shelf = Shelf([("a", four)])
            if error is None:
                self.assertEqual(changed(shelf, "least a"), (Shelf([("a", COINS)]), " ".join(str(at) for at in letters)))
            else:
                self.assert_error(error, changed, shelf, "least a")
                self.assert_error(error, changed, shelf, "join c a a")

    def test_join(self):
        later, answer = changed(SHELF, "join c b t")
        self.assertEqual(later.names, SHELF.names + ("c",))
        self.assertEqual((later.kept("c").bends[0], answer), (-12, str(later.kept("c"))))
        self.check("join c t t")
        self.assert_error(Misfit("rim"), changed, SHELF, "join c a b")
        for line in ("join c a f", "join c f a", "join c f f"):
            self.assert_error(Flat(), changed, SHELF, line)
        self.assert_error(NoName("x"), changed, SHELF, "join a x y")
        self.assert_error(NoName("y"), changed, SHELF, "join a b y")
        self.assert_error(Twice("a"), changed, SHELF, "join a b f")

    def test_more_than_sixty_digits(self):
        # Each letter makes the greatest bend greater; the last one that is let has 60 digits.
        bends, letters = COINS.bends, 0
        while max(walked(bends, (letters % 4,))) < 10 ** 60:
            bends, letters = walked(bends, (letters % 4,)), letters + 1
        shelf = Shelf([("a", Four(bends)), ("b", COINS)])
        at = letters % 4
        self.assert_error(TooMany("digits", 60), changed, shelf, f"walk a {at}")
        self.assertEqual(changed(shelf, f"walk a {at} {at}"), (shelf, str(Four(bends))))
        self.assertEqual(changed(shelf, "copy c a")[1], str(Four(bends)))
        self.assertEqual(changed(shelf, "drop a"), (Shelf([("b", COINS)]), "1"))
        self.assert_error(TooMany("digits", 60), changed, shelf, f"turn a {bends.index(max(bends))}")
        wide = Shelf([("a", Four(walked(bends, (at,)))), ("b", COINS)])
        self.assert_error(TooMany("digits", 60), changed, wide, "copy c a")
        self.assert_error(Twice("b"), changed, wide, "copy b a")
        self.assertEqual(changed(wide, f"walk a {at}"), (shelf, str(Four(bends))))
        self.assertEqual(changed(wide, "least a")[0], Shelf([("a", COINS), ("b", COINS)]))
        self.assertEqual(changed(wide, "drop b")[1], "1")
        self.assertEqual(changed(wide, "walk b 0")[1], "45 5 8 8")
        rim = 10 ** 60
        great = Four((-rim, rim + 1, rim * rim + rim, rim * rim + rim + 1))
        for line in ("join c a a", "least a", "turn a 0", "walk a 0", "copy c a"):
            self.assert_error(TooMany("digits", 60), changed, Shelf([("a", great)]), line)

    def test_just_sixty_one_digits(self):
        root = 10 ** 30
        for bends, fits in (((0, (root - 1) ** 2, 1, root * root), False), ((0, (root - 2) ** 2, 1, (root - 1) ** 2), True)):
            shelf = Shelf([("a", Four(bends))])
            if fits:
                self.assertEqual(changed(shelf, "copy b a")[1], " ".join(str(bend) for bend in bends))
            else:
                self.assert_error(TooMany("digits", 60), changed, shelf, "copy b a")

    def test_sixty_digits(self):
        # Bends of just 60 digits, below 0 as well, are let.
        rim = 10 ** 30 - 1
        while rim * rim + rim + 1 >= 10 ** 60:
            rim -= 1
        four = Four((-rim, rim + 1, rim * rim + rim, rim * rim + rim + 1))
        self.assertEqual(len(str(max(four.bends))), 60)
        self.assertEqual(changed(Shelf([("a", four)]), "copy b a")[1], str(four))

    def test_order_of_errors(self):
        for value in ODD_VALUES + (FOURS, None, "a", Looser(), look_alike("Shelf", fours=FOURS, names=("a",))):
            for line in ("walk a 0", "names", None, ""):
                self.assert_error(BadDesk("shelf"), changed, value, line)
        for word in ASK_WORDS:
            for line in (word, word + " a", word + " x y z", word + " ", word + " a 1 2"):
                self.assert_error(BadText(0, 0), changed, SHELF, line)
        for value in ODD_VALUES + (5, ["walk", "a", 0], Looser()):
            if not isinstance(value, str):
                self.assert_error(BadText(0, 0), changed, SHELF, value)
        # Bad texts ahead of names that are not kept, these ahead of names twice, these ahead of all others.
        self.assert_error(BadText(0, 3), changed, SHELF, "copy x y z")
        self.assert_error(BadText(0, 5), changed, SHELF, "four a -3 5 8 9")
        self.assert_error(Twice("a"), changed, SHELF, "four a -3 5 8 8")
        self.assert_error(NoName("y"), changed, SHELF, "join a y z")
        self.assert_error(Twice("a"), changed, SHELF, "join a a b")

    def test_many_fours(self):
        began = time.process_time()
        shelf = Shelf()
        for at in range(2000):
            shelf = changed(shelf, f"four n{at} -3 5 8 8")[0]
        for at in range(0, 2000, 2):
            shelf = changed(shelf, f"drop n{at}")[0]
        self.assertEqual(len(shelf.names), 1000)
        self.assertLess(time.process_time() - began, 5)


if __name__ == "__main__":
    unittest.main()
