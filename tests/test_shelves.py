"""Shelves: fours under names."""

import time
import unittest

from bendsigns.errors import BadDesk, NoName, Twice
from bendsigns.fours import Four
from bendsigns.shelves import Shelf, with_four, without
from tests.helps import ODD_VALUES, Case, Looser, look_alike

COINS, ODD, FLAT = Four((-3, 5, 8, 8)), Four((-12, 25, 25, 28)), Four((0, 0, 1, 1))
NO_NAMES = tuple(value for value in ODD_VALUES if not (isinstance(value, str) and value == "abc")) + (
    "A", "a_", "1a", "a b", "a" * 13, 5, ("a",), ["a"], Looser(),
)


class Shelves(Case):
    """Shelf."""

    def test_what_is_kept(self):
        for fours in ([("a", COINS), ("b", ODD)], (("a", COINS), ("b", ODD)), [["a", COINS], ("b", ODD)]):
            for shelf in (Shelf(fours), Shelf(fours=fours)):
                self.assertEqual(shelf.fours, (("a", COINS), ("b", ODD)))
                self.assertTrue(all(type(pair) is tuple for pair in shelf.fours))
                self.assertEqual(shelf.names, ("a", "b"))
                self.assertEqual(shelf.kept("a"), COINS)
                self.assertEqual(shelf.kept(name="b"), ODD)

    def test_nothing(self):
        for shelf in (Shelf(), Shelf(()), Shelf([])):
            self.assertEqual((shelf.fours, shelf.names), ((), ()))
            self.assert_error(NoName("a"), shelf.kept, "a")

    def test_order(self):
        self.assertEqual(Shelf([("b", ODD), ("a", COINS)]).names, ("b", "a"))
        self.assertEqual(Shelf([("b", COINS), ("a", COINS)]).names, ("b", "a"))

    def test_copied(self):
        fours = [["a", COINS]]
        shelf = Shelf(fours)
        fours[0][0] = "b"
        fours.append(("c", ODD))
        self.assertEqual(shelf, Shelf([("a", COINS)]))

    def test_no_pairs(self):
        for value in ODD_VALUES + (5, "ab", COINS, Looser(), {"a": COINS}, Shelf(), [COINS], ["a"], [("a", COINS, 1)],
                                   [("a",)], [()], [(COINS, "a")], [("a", COINS.bends)], [("a", None)], [{"a": COINS}],
                                   ("a", COINS), [("a", COINS), None], [("a", COINS), ("a", None)]):
            self.assert_error(BadDesk("fours"), Shelf, value)
        for name in NO_NAMES:
            self.assert_error(BadDesk("fours"), Shelf, [(name, COINS)])
            self.assert_error(BadDesk("fours"), Shelf, [("a", COINS), ("a", COINS), (name, COINS)])

    def test_names_twice(self):
        a, b, c = ("a", COINS), ("b", ODD), ("c", FLAT)
        self.assert_error(Twice("a"), Shelf, [a, a])
        self.assert_error(Twice("b"), Shelf, [a, b, c, b, a])
        self.assert_error(Twice("a"), Shelf, (a, b, c, ["a", ODD], b))
        self.assertEqual(Shelf([a, ("aa", COINS), ("a1", COINS)]).names, ("a", "aa", "a1"))

    def test_no_name(self):
        shelf = Shelf([("a", COINS), ("b", ODD)])
        for value in NO_NAMES + ("c", "abc", "ab", "a ", " a", "0", 0, 1, (), []):
            self.assert_error(NoName(value), shelf.kept, value)

    def test_equality(self):
        shelf = Shelf([("a", COINS), ("b", ODD)])
        self.assert_true(shelf == Shelf((["a", Four([-3, 5, 8, 8])], ["b", ODD])))
        self.assert_false(shelf != Shelf((["a", Four([-3, 5, 8, 8])], ["b", ODD])))
        for other in (Shelf(), Shelf([("b", ODD), ("a", COINS)]), Shelf([("a", COINS)]), Shelf([("a", ODD), ("b", COINS)]),
                      Shelf([("a", COINS), ("c", ODD)]), shelf.fours, shelf.names, None, Looser(), "a b",
                      look_alike("Shelf", fours=shelf.fours, names=shelf.names)):
            self.assert_false(shelf == other)
            self.assert_true(shelf != other)
        self.assert_true(Shelf() == Shelf([]))

    def test_with_and_without(self):
        shelf = Shelf([("a", COINS), ("b", ODD), ("c", FLAT)])
        self.assertEqual(with_four(shelf, "d", ODD), Shelf([("a", COINS), ("b", ODD), ("c", FLAT), ("d", ODD)]))
        self.assertEqual(with_four(shelf, "b", FLAT), Shelf([("a", COINS), ("b", FLAT), ("c", FLAT)]))
        self.assertEqual(without(shelf, "a"), Shelf([("b", ODD), ("c", FLAT)]))
        for later in (with_four(shelf, "d", ODD), with_four(shelf, "b", FLAT), without(shelf, "c")):
            self.assertEqual(later.names, tuple(name for name, _ in later.fours))
        self.assertEqual(shelf.names, ("a", "b", "c"))

    def test_many(self):
        began = time.process_time()
        fours = [("n" + str(at), COINS) for at in range(3000)]
        shelf = Shelf(fours)
        self.assertEqual(shelf.kept("n2999"), COINS)
        self.assert_error(Twice("n2998"), Shelf, fours + [("n2998", ODD)])
        self.assertLess(time.process_time() - began, 1)


if __name__ == "__main__":
    unittest.main()
