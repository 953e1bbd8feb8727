"""The list of all circles of a gasket up to a bend."""

import time
import unittest

from bendsigns.errors import BadFour, BadNumber, Flat, TooMany
from bendsigns.fours import Four
from bendsigns.lists import circles
from bendsigns.rims import rim_fours
from bendsigns.words import is_running
from tests.helps import ODD_VALUES, Case
from tests.walks import all_circles, exchanged, lowered, walked, words_up_to

COINS = Four((-3, 5, 8, 8))


class Lists(Case):
    """circles."""

    def test_against_a_walk(self):
        for number in range(1, 9):
            for four in rim_fours(number):
                for order in ((0, 1, 2, 3), (3, 1, 2, 0)):
                    for most in (1, number, 2 * number + 3, 60):
                        told = circles(four.in_order(order), most)
                        self.assertEqual(told, all_circles(four.in_order(order).bends, most))
                        self.assertEqual(told[0], (-number, (), order.index(0)))

    def test_all_running_words(self):
        # Each circle once: each running word ends in one circle, and the word of no letters has four.
        for start in ((-1, 2, 2, 3), (-3, 5, 8, 8), (-2, 3, 6, 7)):
            told = circles(Four(start), 40)
            self.assertEqual(len(told), len(set(told)))
            for word in words_up_to(4):
                if word:
                    bend = walked(start, word)[word[-1]]
                    self.assertIs((bend, word, word[-1]) in told, bend <= 40)
            for bend, letters, place in told:
                self.assertEqual(walked(start, letters)[place], bend)
                self.assertTrue(is_running(letters) and letters[-1:] in ((), (place,)))
                self.assertIs(type(letters), tuple)

    def test_order(self):
        for start in ((-1, 2, 2, 3), (-6, 10, 15, 19), (28, 25, -12, 25)):
            told = circles(Four(start), 300)
            self.assertIs(type(told), tuple)
            self.assertEqual(list(told), sorted(told, key=lambda row: (row[0], len(row[1]), row[1], row[2])))

    def test_bounds(self):
        for start in ((-1, 2, 2, 3), (-3, 5, 8, 8), (-60, 61, 3660, 3661)):
            self.assertEqual(circles(Four(start), 300), all_circles(start, 300))
            self.assertEqual(circles(four=Four(start), most=1), all_circles(start, 1))
            told = [row for row in circles(Four(start), 300) if row[0] <= 61]
            self.assertEqual(list(circles(Four(start), 61)), told)
        self.assertEqual(circles(Four((-60, 61, 3660, 3661)), 60), ((-60, (), 0),))
        self.assertEqual(circles(Four((-60, 61, 3660, 3661)), 61), ((-60, (), 0), (61, (), 1)))
        self.assertEqual(circles(Four((3, -1, 2, 2)), 1), ((-1, (), 1),))

    def test_a_kept_bend(self):
        told = circles(Four((2, 3, -1, 2)), 6)
        self.assertEqual(told, all_circles((2, 3, -1, 2), 6))
        self.assertEqual([row for row in told if row[0] == 3], [(3, (), 1), (3, (1,), 1)])

    def test_every_four_of_a_gasket(self):
        for start in ((-3, 5, 8, 8), (-1, 2, 2, 3)):
            wanted = circles(Four(start), 30)
            for word in words_up_to(4):
                self.assertEqual(circles(Four(walked(start, word)), 30), wanted)

    def test_errors(self):
        flat = Four((0, 0, 1, 1))
        for value in ODD_VALUES + ((-3, 5, 8, 8), [0, 0, 1, 1], 0):
            self.assert_error(BadFour("four"), circles, value, None)
        far = Four(walked((0, 0, 1, 1), [at % 4 for at in range(201)]))
        for value in ODD_VALUES + (0, -3, 301, 10 ** 60, [5], []):
            for four in (COINS, flat, far):
                self.assert_error(BadNumber("most"), circles, four, value)
        for bends in ((0, 0, 1, 1), (1, 0, 0, 1), (4, 0, 1, 1), walked((0, 0, 1, 1), [0, 1, 2, 3])):
            self.assert_error(Flat(), circles, Four(bends), 5)

    def test_two_hundred_exchanges(self):
        word = [at % 4 for at in range(201)]
        near, far = Four(walked(COINS.bends, word[:200])), Four(walked(COINS.bends, word))
        self.assertEqual(len(lowered(far.bends)[1]), 201)
        self.assertEqual(circles(near, 60), circles(COINS, 60))
        self.assert_error(TooMany("letters", 200), circles, far, 60)
        flat = walked((0, 0, 1, 1), word)
        self.assert_error(TooMany("letters", 200), circles, Four(flat), 60)
        self.assert_error(Flat(), circles, Four(exchanged(flat, 0)), 60)

    def test_short_time(self):
        began = time.process_time()
        self.assertGreater(len(circles(Four((-1, 2, 2, 3)), 300)), 600)
        circles(Four((-2, 3, 6, 7)), 300)
        self.assertLess(time.process_time() - began, 2)


if __name__ == "__main__":
    unittest.main()
