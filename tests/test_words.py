"""Running words and rising words."""

import itertools
import unittest

from bendsigns.errors import BadFour, BadWord, TooMany
from bendsigns.fours import Four
from bendsigns.words import is_rising, is_running
from tests.helps import ODD_VALUES, Case
from tests.walks import walked, words_up_to

STARTS = ((-3, 5, 8, 8), (0, 0, 1, 1), (-1, 2, 2, 3), (45, 117, 8, 8), (2, 2, 15, 3))


class Running(Case):
    """No letter right behind itself."""

    def test_short_words(self):
        running = set(words_up_to(4))
        for length in range(5):
            for word in itertools.product(range(4), repeat=length):
                self.assertIs(is_running(word), word in running)
                self.assertIs(is_running(word=list(word)), word in running)

    def test_long_words(self):
        self.assert_true(is_running([0, 1] * 100))
        self.assert_true(is_running([3]))
        self.assert_false(is_running([0, 1] * 99 + [2, 2]))
        self.assert_error(TooMany("letters", 200), is_running, [0, 1] * 100 + [0])
        self.assert_error(TooMany("letters", 200), is_running, [0] * 201)

    def test_errors(self):
        for value in ODD_VALUES + (0, [4], [0, 1, -1], [0] * 201 + [9], "01"):
            self.assert_error(BadWord("word"), is_running, value)


class Rising(Case):
    """Each exchange makes the bend greater."""

    def test_short_words(self):
        for start in STARTS:
            for length in range(5):
                for word in itertools.product(range(4), repeat=length):
                    rows = [walked(start, word[:count]) for count in range(length + 1)]
                    wanted = all(sum(rows[index]) < sum(rows[index + 1]) for index in range(length))
                    self.assertIs(is_rising(Four(start), word), wanted, (start, word))

    def test_an_exchange_that_keeps(self):
        self.assert_false(is_rising(Four((-1, 2, 2, 3)), [3]))
        self.assert_false(is_rising(Four((-1, 2, 2, 3)), [3, 0, 1]))
        self.assert_false(is_rising(Four((0, 0, 1, 1)), [2]))
        self.assert_true(is_rising(four=Four((-1, 2, 2, 3)), word=[0, 3, 0]))

    def test_long_words(self):
        self.assert_true(is_rising(Four((-3, 5, 8, 8)), [0, 1, 2, 3] * 50))
        self.assert_false(is_rising(Four((-3, 5, 8, 8)), [0, 1, 2, 3] * 49 + [0, 1, 2, 2]))
        self.assert_error(TooMany("letters", 200), is_rising, Four((-3, 5, 8, 8)), [0, 1] * 100 + [0])

    def test_errors(self):
        for value in ODD_VALUES + ((-3, 5, 8, 8), [0]):
            self.assert_error(BadFour("four"), is_rising, value, [9])
        for value in ODD_VALUES + (0, [4], [0] * 201 + [9]):
            self.assert_error(BadWord("word"), is_rising, Four((-3, 5, 8, 8)), value)


if __name__ == "__main__":
    unittest.main()
