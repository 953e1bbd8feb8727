"""Asks: their answers and their errors."""

import itertools
import time
import unittest

from bendsigns.desk_asks import answer_of
from bendsigns.errors import BadDesk, BadNumber, BadText, BendError, Flat, Misfit, NoName, TooMany
from bendsigns.fours import Four
from bendsigns.rims import rim_fours
from bendsigns.shelves import Shelf
from tests.desks import own_answer
from tests.helps import ODD_VALUES, Case, Looser, look_alike
from tests.lines import ASK_WORDS, DEED_WORDS, SAMPLES, varied
from tests.walks import walked

COINS, ODD, FLAT = Four((-3, 5, 8, 8)), Four((-12, 25, 25, 28)), Four((0, 0, 1, 1))
SEVEN, NO_FOURTH = Four((-7, 8, 56, 57)), Four((-15, 24, 41, 44))
WORD = tuple(at % 4 for at in range(201))
FAR = Four(walked(COINS.bends, WORD))
FOURS = (("a", COINS), ("b", ODD), ("f", FLAT), ("far", FAR), ("s", SEVEN), ("n", NO_FOURTH),
         ("w", Four(walked(COINS.bends, (0, 1, 2)))))
SHELF = Shelf(FOURS)
ASK_LINES = tuple(line for line in SAMPLES if line.split(" ")[0] in ASK_WORDS)
DIGITS = "9" * 60


class Asks(Case):
    """answer_of."""

    def check(self, line, fours=FOURS):
        """The answer or the error, and that the shelf that was passed stays."""
        shelf = Shelf(fours)
        try:
            wanted = own_answer(dict(fours), line)
        except BendError as error:
            self.assert_error(error, answer_of, shelf, line)
        else:
            told = answer_of(shelf, line)
            self.assertEqual(told, wanted, line)
            self.assertIs(type(told), str)
        self.assertEqual((shelf.fours, shelf.names), (tuple(fours), tuple(name for name, _ in fours)))

    def test_all_names(self):
        for line in ASK_LINES:
            items = line.split(" ")
            for name in ("a", "b", "f", "far", "s", "n", "w", "x"):
                if len(items) > 1:
                    self.check(" ".join([items[0], name] + items[2:]))

    def test_what_stands_in_lines(self):
        for line in ASK_LINES:
            for other in varied(line, ("", "a", "b", "x", "f", "0", "3", "4", "12", "-1", "-0", "names", "a_")):
                self.check(other)

    def test_numbers(self):
        for name in ("a", "b", "f", "s", "n"):
            for number in (0, 1, 2, 5, 8, 12, 16, 25, 29, 36, 60, 61, 81, 144, 300, 301, 1988, 2000, 2003, DIGITS):
                for word in ("out", "comes", "barred", "many"):
                    self.check(f"{word} {name} {number}")
                for place in range(4):
                    self.check(f"touch {name} {place} {number}")
                    self.check(f"touch {name} {place} -{number}")

    def test_all_small_rims(self):
        for rim in range(1, 16):
            fours = tuple((f"n{at}", four) for at, four in enumerate(rim_fours(rim)))
            for name, four in fours:
                for line in ("rim", "kind", "sign", "fourth", "rims", "bars", "show"):
                    self.check(f"{line} {name}", fours)
                for other, _ in fours:
                    self.check(f"alike {name} {other}", fours)

    def test_nothing(self):
        self.assertEqual(answer_of(Shelf(), "names"), "-")
        self.assertEqual(answer_of(SHELF, "names"), "a b f far s n w")
        self.assertEqual(answer_of(SHELF, "rims f"), "-")
        self.assertEqual(answer_of(SHELF, "bars f"), "- / -")
        self.assertEqual(answer_of(SHELF, "bars b"), "- / 1 4 9 36")
        self.assertEqual(answer_of(SHELF, "bars a"), "1 6 / -")
        self.assertEqual(answer_of(SHELF, "bars n"), "1 2 / -")
        self.assertEqual(answer_of(SHELF, "bars s"), "3 6 / 9 36")
        self.assertEqual(answer_of(SHELF, "out a 2"), "-")
        self.assertEqual(answer_of(SHELF, "barred b 25"), "-")

    def test_several_rows(self):
        answers = [answer_of(SHELF, f"out {name} {bend}") for name in ("a", "b", "f") for bend in range(1, 61)]
        self.assertTrue(any(answer.count(" / ") > 1 for answer in answers))
        for answer in answers:
            self.assertTrue(answer == "-" or all(len(row.split(" ")) == 4 for row in answer.split(" / ")))
            self.assertNotIn("  ", answer)

    def test_words_of_papers(self):
        told = {answer_of(SHELF, f"comes {name} {number}").split(" ")[0] for name in ("a", "b", "s") for number in range(1, 301)}
        self.assertEqual(told, {"comes", "byrest", "bysign", "byfourth", "bylist"})
        self.assertEqual(answer_of(SHELF, "comes a 5"), "comes 1")
        self.assertEqual(answer_of(SHELF, "comes a 29"), "comes 2 1 1")
        self.assertEqual(answer_of(SHELF, "comes a 60"), "bylist 24")
        self.assertEqual(answer_of(SHELF, "comes a 4"), "byrest 4")
        self.assertEqual(answer_of(SHELF, "barred f 2"), "byrest 2")
        self.assertEqual(answer_of(SHELF, "touch a 0 12"), "touching 1 1")
        self.assertEqual(answer_of(SHELF, "touch a 0 21"), "touching 1 -2")
        self.assertEqual(answer_of(SHELF, "touch a 0 4"), "untouched")
        self.assertEqual(answer_of(SHELF, "alike a w"), "alike")
        self.assertEqual(answer_of(SHELF, "alike a a"), "alike")
        self.assertEqual(answer_of(SHELF, "alike a b"), "unlike")
        self.assertEqual(answer_of(shelf=SHELF, line="many a 12"), "6")

    def test_errors_of_functions(self):
        for line, error in (
            ("rim far", TooMany("letters", 200)), ("rims far", TooMany("letters", 200)), ("alike a far", TooMany("letters", 200)),
            ("out far 8", TooMany("letters", 200)), ("comes far 12", TooMany("letters", 200)),
            ("many far 12", TooMany("letters", 200)), ("out far 61", BadNumber("bend")), ("out a 0", BadNumber("bend")),
            ("comes far 0", BadNumber("number")), ("comes a 301", BadNumber("number")), ("barred a 0", BadNumber("number")),
            ("many a 0", BadNumber("most")), ("many f 301", BadNumber("most")), ("comes f 12", Flat()), ("many f 12", Flat()),
            ("touch f 0 5", Flat()), ("touch f 0 0", BadNumber("number")), ("touch a 0 3", BadNumber("number")),
            ("touch a 0 2004", BadNumber("number")), ("fourth a", Misfit("kind")), ("fourth n", Misfit("sign")),
        ):
            self.assert_error(error, answer_of, SHELF, line)
        for line, answer in (("sign far", "-1"), ("kind far", "5 2"), ("bars far", "1 6 / -"), ("barred far 36", "bysign 1 6"),
                             ("fourth f", "1"), ("rim f", "0"), ("show far", str(FAR))):
            self.assertEqual(answer_of(SHELF, line), answer)
        hundred = Shelf([("a", Four((-101, 102, 10302, 10303)))])
        self.assert_error(TooMany("turnings", 100), answer_of, hundred, "rims a")

    def test_order_of_errors(self):
        for value in ODD_VALUES + (FOURS, None, "a", Looser(), look_alike("Shelf", fours=FOURS, names=("a",))):
            for line in ("names", "walk a 0", None, ""):
                self.assert_error(BadDesk("shelf"), answer_of, value, line)
        for word in DEED_WORDS:
            for line in (word, word + " a", word + " x y z", word + " ", word + " a 1 2", word + " new -3 5 8 8"):
                self.assert_error(BadText(0, 0), answer_of, SHELF, line)
        for value in ODD_VALUES + (5, ["names"], Looser()):
            if not isinstance(value, str):
                self.assert_error(BadText(0, 0), answer_of, SHELF, value)
        self.assert_error(NoName("x"), answer_of, SHELF, "alike x y")
        self.assert_error(NoName("y"), answer_of, SHELF, "alike far y")
        self.assert_error(NoName("x"), answer_of, SHELF, "many x 0")
        self.assert_error(BadText(0, 2), answer_of, SHELF, "many x -1")
        self.assert_error(BadText(0, 1), answer_of, SHELF, "names a")

    def test_short_time(self):
        began = time.process_time()
        for line, name in itertools.product(ASK_LINES[1:], ("a", "b", "s")):
            items = line.split(" ")
            if items[0] != "fourth":
                answer_of(SHELF, " ".join([items[0], name] + items[2:]))
        self.assertLess(time.process_time() - began, 2)


if __name__ == "__main__":
    unittest.main()
