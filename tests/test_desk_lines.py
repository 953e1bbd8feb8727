"""Reading the lines of a desk."""

import time
import unittest

from bendsigns.desk_lines import ASKS, DEEDS, read_line
from bendsigns.errors import BadText
from bendsigns.fours import Four
from tests.helps import ODD_VALUES, Case, Looser
from tests.lines import ASK_WORDS, DEED_WORDS, SAMPLES, first_wrong, varied

NO_STRINGS = tuple(value for value in ODD_VALUES if not isinstance(value, str))
NINES = "9" * 60
EXTRAS = (
    "", "a", "a1", "abcdefghijkl", "abcdefghijklm", "1a", "A", "a_", "a-b", "names", "four", "drop", "0", "1", "3", "4", "7",
    "-1", "-0", "+1", "01", "00", "1.0", "-", "/", "1\n", "\n", "a\n", "\t", "1\t", "\u0661", "\u00e9", "\u0131", NINES,
    "-" + NINES, "1" + NINES, "-1" + NINES, "0" + NINES, "1" * 5000, "--1", "1-", "0x1", "1e1", "1_0", "True", "None",
)


class Words(Case):
    """DEEDS and ASKS."""

    def test_words(self):
        self.assertEqual(DEEDS, DEED_WORDS)
        self.assertEqual(ASKS, ASK_WORDS)
        self.assertEqual((len(DEEDS), len(ASKS)), (8, 14))
        self.assertEqual([line.split(" ")[0] for line in SAMPLES], list(DEEDS + ASKS))


class Reading(Case):
    """read_line."""

    def check(self, line):
        """What is told, or the item that cannot stand."""
        wrong = first_wrong(line)
        if wrong is not None:
            self.assert_error(BadText(0, wrong), read_line, line)
            return
        told, items = read_line(line), line.split(" ")
        self.assertIs(type(told), tuple)
        if items[0] == "four":
            self.assertEqual(told, ("four", items[1], Four([int(item) for item in items[2:]])))
            return
        self.assertEqual(" ".join(str(each) for each in told), line)
        for each, item in zip(told, items):
            self.assertIs(type(each), str if item[:1].isalpha() else int)

    def test_samples(self):
        for line in SAMPLES:
            self.assertIsNone(first_wrong(line))
            self.check(line)
            self.assertEqual(read_line(line=line), read_line(line))
        self.assertEqual(read_line("touch a 1 -2"), ("touch", "a", 1, -2))
        self.assertEqual(read_line("join c a b"), ("join", "c", "a", "b"))
        self.assertEqual(read_line("four b -3 5 8 8"), ("four", "b", Four((-3, 5, 8, 8))))

    def test_one_item_changed(self):
        for line in SAMPLES:
            for other in varied(line, EXTRAS):
                self.check(other)

    def test_two_items_changed(self):
        for line in SAMPLES[::3]:
            for near in list(varied(line, ("", "a", "4", "-0")))[::3]:
                for other in list(varied(near, ("", "b", "2", "names")))[::5]:
                    self.check(other)

    def test_names(self):
        for many in range(1, 14):
            for name in ("a" * many, "z" + "9" * (many - 1), "q" + "w" * (many - 1)):
                if many <= 12:
                    self.assertEqual(read_line(f"show {name}"), ("show", name))
                else:
                    self.assert_error(BadText(0, 1), read_line, f"show {name}")
        # What is the first item of a line is a name as well.
        self.assertEqual(read_line("copy names four"), ("copy", "names", "four"))

    def test_integers(self):
        self.assertEqual(read_line(f"touch a 0 -{NINES}")[3], -int(NINES))
        self.assertEqual(read_line(f"comes a {NINES}")[2], int(NINES))
        for item in ("1" + NINES, "-0", "+5", "05", "", "5.", "\u0665"):
            self.assert_error(BadText(0, 3), read_line, f"touch a 0 {item}")
            self.assert_error(BadText(0, 2), read_line, f"comes a {item}")
        self.assert_error(BadText(0, 2), read_line, "comes a -5")
        self.assert_error(BadText(0, 3), read_line, "root a 5 -1")
        self.assertEqual(read_line("root a 0 0"), ("root", "a", 0, 0))

    def test_fours(self):
        for text, wrong in (("-3 5 8 9", 5), ("1 1 1 1", 5), ("-6 10 16 16", 5), ("0 0 0 0", 5), ("3 -5 -8 -8", 5),
                            ("-3 5 8", 5), ("-3 5", 4), ("-3 5 8 8 8", 6), ("-3 5 x 9", 4), ("-3 5 8 9 1", 6)):
            self.assert_error(BadText(0, wrong), read_line, "four b " + text)
        big = int("9" * 29)
        bends = (-big, big + 1, big * big + big, big * big + big + 1)
        self.assertEqual(read_line("four b " + " ".join(str(bend) for bend in bends))[2].bends, bends)

    def test_missing_items(self):
        for line in SAMPLES:
            items = line.split(" ")
            for many in range(1, len(items)):
                if items[0] != "walk" or many < 3:
                    self.assert_error(BadText(0, many), read_line, " ".join(items[:many]))

    def test_long_lines(self):
        began = time.process_time()
        self.assertEqual(len(read_line("walk a" + " 1" * 9000)), 9002)
        self.assert_error(BadText(0, 9002), read_line, "walk a" + " 1" * 9000 + " 5")
        self.assert_error(BadText(0, 2), read_line, "show a" + " a" * 9000)
        self.assert_error(BadText(0, 0), read_line, " " * 20000)
        self.assert_error(BadText(0, 2), read_line, "comes a " + "1" * 19000)
        self.assert_error(BadText(0, 1), read_line, "show " + "a" * 19000)
        self.assertLess(time.process_time() - began, 1)

    def test_what_is_no_line(self):
        for value in NO_STRINGS + (5, ("names",), ["show", "a"], b"names", Looser()):
            self.assert_error(BadText(0, 0), read_line, value)
        for line in ("", " ", " names", "Names", "names\n", "nam", "show  a", "0", "-", "unknown a b", "walks a 0"):
            self.check(line)
        self.assert_error(BadText(0, 1), read_line, "names ")
        self.assert_error(BadText(0, 1), read_line, "show  a")
        self.assert_error(BadText(0, 2), read_line, "show a ")
        self.assert_error(BadText(0, 0), read_line, " show a")


if __name__ == "__main__":
    unittest.main()
