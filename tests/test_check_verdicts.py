"""Checking the papers of verdicts."""

import itertools
import time
import unittest

from bendsigns.check_verdicts import shows_verdict
from bendsigns.errors import BadFour, BadNumber, Flat, TooMany
from bendsigns.fours import Four
from bendsigns.kinds import kind_of
from bendsigns.papers import Denial, Paper
from bendsigns.rims import rim_fours
from bendsigns.touching import Way
from bendsigns.verdicts import ByFourth, ByList, ByRest, BySign, Comes, barred, verdict
from tests.helps import ODD_VALUES, Case, Looser, look_alike
from tests.walks import all_circles, walked

COINS, ODD, FLAT, ONE = Four((-3, 5, 8, 8)), Four((-12, 25, 25, 28)), Four((0, 0, 1, 1)), Four((-1, 2, 2, 3))
NO_FOURS = ODD_VALUES + ((-3, 5, 8, 8), [0, 0, 1, 1], 0)
WORD = tuple(at % 4 for at in range(201))


class Shown(Case):
    """shows_verdict."""

    def test_what_is_told(self):
        words = set()
        for rim in range(1, 25):
            for four in rim_fours(rim):
                for number in range(1, 301, 1 if rim == 12 else 5):
                    told = verdict(four, number)
                    words.add(told.word)
                    self.assert_true(shows_verdict(four, number, told))
                    for near in (number - 1, number + 1):
                        if 1 <= near <= 300 and told.word != "bylist":
                            self.assert_false(shows_verdict(four, near, told))
        self.assertEqual(words, {"comes", "byrest", "bysign", "byfourth", "bylist"})

    def test_all_circles(self):
        for start in (COINS, ONE, Four((28, 25, -12, 25))):
            for bend, letters, place in all_circles(start.bends, 60):
                if bend < 1:
                    self.assert_false(shows_verdict(start, -bend, Comes(letters, place)))
                    continue
                self.assert_true(shows_verdict(four=start, number=bend, value=Comes(list(letters), place)))
                for number in (bend - 1, bend + 1):
                    if number > 0:
                        self.assert_false(shows_verdict(start, number, Comes(letters, place)))
                for other in range(4):
                    if letters and other != place:
                        self.assert_false(shows_verdict(start, bend, Comes(letters, other)))

    def test_all_short_words(self):
        words = [()] + [word for many in (1, 2, 3) for word in itertools.product(range(4), repeat=many)]
        for start in (COINS, ONE):
            listed = all_circles(start.bends, 300)
            for word in words:
                for place in range(4):
                    bend = walked(start.bends, word)[place]
                    if 1 <= bend <= 300:
                        told = shows_verdict(start, bend, Comes(word, place))
                        self.assertIs(told, (bend, word, place) in listed, (word, place))

    def test_from_the_least_four(self):
        # Letters lead from the least four, in its places, whatever four is passed.
        for word in ((0,), (1, 2), WORD[:200]):
            four = Four(walked(COINS.bends, word))
            self.assert_true(shows_verdict(four, 12, Comes((3,), 3)))
            self.assert_true(shows_verdict(four, 5, Comes((), 1)))
            self.assert_false(shows_verdict(four, 12, Comes((1,), 1)))
            self.assert_true(shows_verdict(four, 36, BySign(1, 6)))
            self.assert_true(shows_verdict(four, 60, ByList(24)))
            self.assert_true(shows_verdict(four, 4, ByRest(4)))

    def test_long_words(self):
        began = time.process_time()
        for word in ((0, 1) * 4900, tuple(at % 4 for at in range(9900)), (2, 3) * 4900, (2, 3, 2, 2) + (3, 2) * 4000, (0,) * 9000):
            for number in (5, 8, 12, 300):
                self.assert_false(shows_verdict(COINS, number, Comes(word, word[-1])))
        # 12 comes behind the letter 2, not behind a word that only leads there, too.
        self.assert_false(shows_verdict(COINS, 12, Comes((3, 3, 2), 2)))
        self.assert_false(shows_verdict(COINS, 12, Comes((2, 2, 2), 2)))
        self.assert_false(shows_verdict(COINS, 8, Comes((2, 2), 2)))
        self.assert_true(shows_verdict(ONE, 3, Comes((3,), 3)))
        self.assert_false(shows_verdict(ONE, 3, Comes((3, 3), 3)))
        self.assertLess(time.process_time() - began, 20)

    def test_rests(self):
        for four in (COINS, ODD, ONE, Four((-2, 3, 6, 7))):
            for number in list(range(1, 50, 2)) + [96, 100, 288, 300]:
                for rest in range(-5, 29):
                    fits = rest == number % 24 and rest not in kind_of(four).rests
                    self.assertIs(shows_verdict(four, number, ByRest(rest)), fits)

    def test_families(self):
        ks, roots = (0, 1, 2, 3, 4, 6, 9, 24, 36), (-6, -2, -1, 0, 1, 2, 3, 4, 6, 12)
        seen = set()
        for four in (COINS, ODD, ONE, Four((-7, 8, 56, 57)), Four((-2, 3, 6, 7)), Four((-15, 24, 41, 44))):
            for number in (1, 2, 3, 4, 6, 8, 9, 16, 24, 36, 64, 81, 96, 144):
                told, listed = barred(four, number), [bend for bend, _, _ in all_circles(four.bends, number)]
                for k, root in itertools.product(ks, roots):
                    for made in (BySign, ByFourth):
                        right = shows_verdict(four, number, made(k, root))
                        if told == made(k, root):
                            self.assert_true(right)
                        elif told is None or told.word != "byrest":
                            self.assert_false(right)
                        if right:
                            power = 2 if made is BySign else 4
                            self.assertEqual(k * root ** power, number)
                            self.assertTrue(root > 0 and number not in listed)
                            seen.add((made.__name__, k))
        self.assertTrue({("BySign", 1), ("BySign", 6), ("ByFourth", 1), ("ByFourth", 4), ("ByFourth", 9)} <= seen, seen)

    def test_a_later_reason(self):
        # 4 leaves no rest of the kind, and the sign bars squares; it is in no list either.
        for value in (ByRest(4), BySign(1, 2), ByList(1)):
            self.assert_true(shows_verdict(COINS, 4, value))
        self.assert_false(shows_verdict(COINS, 4, ByFourth(4, 1)))
        for value in (BySign(6, 2), ByList(9)):
            self.assert_true(shows_verdict(COINS, 24, value))
        for value in (ByRest(0), BySign(6, -2), BySign(1, 2), BySign(24, 1), ByFourth(6, 2), ByList(8), ByList(10)):
            self.assert_false(shows_verdict(COINS, 24, value))
        for value in (ByFourth(1, 2), ByList(1)):
            self.assert_true(shows_verdict(ODD, 16, value))
        for value in (ByFourth(1, -2), ByFourth(16, 1), ByFourth(4, 2), BySign(1, 4), ByRest(16), ByList(0), ByList(2)):
            self.assert_false(shows_verdict(ODD, 16, value))
        # 25 comes: nothing bars it, and the list has it.
        self.assert_true(shows_verdict(ODD, 25, Comes((), 1)))
        self.assert_true(shows_verdict(ODD, 25, Comes((), 2)))
        for value in (ByList(3), ByList(1), ByList(2), BySign(1, 5), ByRest(1), ByFourth(1, 5)):
            self.assert_false(shows_verdict(ODD, 25, value))

    def test_lists(self):
        for four in (COINS, ODD, ONE):
            listed = [bend for bend, letters, place in all_circles(four.bends, 300)]
            for number in range(1, 301, 3):
                wanted = len([bend for bend in listed if bend <= number])
                for many in (wanted - 1, wanted, wanted + 1, 0, -wanted):
                    fits = many == wanted and number not in listed
                    self.assertIs(shows_verdict(four, number, ByList(many)), fits)

    def test_bent(self):
        for letters in ODD_VALUES + ((4,), (-1,), (2.0,), ("2",), 2, ((2,),), Looser(), (Looser(),), (None, 2), {2: 2}, ()):
            self.assert_false(shows_verdict(COINS, 12, Comes(letters, 2)))
        for place in ODD_VALUES + (0, 1, 3, 4, -2, (2,), [2], 2.0, Looser()):
            self.assert_false(shows_verdict(COINS, 12, Comes((2,), place)))
        self.assert_true(shows_verdict(COINS, 12, Comes((2,), 2)))
        self.assert_true(shows_verdict(COINS, 5, Comes((), 1)))
        self.assert_false(shows_verdict(COINS, 5, Comes((), True)))
        self.assert_true(shows_verdict(ONE, 6, Comes((1,), 1)) and not shows_verdict(ONE, 6, Comes((True,), 1)))
        for rest in ODD_VALUES + (4.0, (4,), Looser(), 28, -20, 1, 0):
            self.assert_false(shows_verdict(COINS, 4, ByRest(rest)))
        self.assert_true(shows_verdict(COINS, 1, ByRest(1)) and not shows_verdict(COINS, 1, ByRest(True)))
        for value in ODD_VALUES + (1.0, 6.0, (1,), "1", Looser(), 0, -1):
            self.assert_false(shows_verdict(COINS, 36, BySign(value, 6)))
            self.assert_false(shows_verdict(COINS, 36, BySign(1, value)))
            self.assert_false(shows_verdict(ODD, 16, ByFourth(value, 2)))
            self.assert_false(shows_verdict(ODD, 16, ByFourth(1, value)))
            self.assert_false(shows_verdict(COINS, 24, ByList(value)))
            # One circle has a bend up to 4: a truth is no number of circles, 1.
            self.assertIs(shows_verdict(COINS, 4, ByList(value)), False)
        self.assert_true(shows_verdict(COINS, 1, BySign(1, 1)) and not shows_verdict(COINS, 1, BySign(True, 1)))
        self.assert_false(shows_verdict(COINS, 1, BySign(1, True)))
        self.assert_false(shows_verdict(COINS, 36, BySign(1, 10 ** 900)))

    def test_of_another_class(self):
        for told, four, number in ((Comes((2,), 2), COINS, 12), (ByRest(4), COINS, 4), (BySign(1, 6), COINS, 36),
                                   (ByFourth(1, 2), ODD, 16), (ByList(24), COINS, 60)):
            made = type(told)
            self.assert_true(shows_verdict(four, number, told))
            for value in (
                Paper(told.word, *told.parts), Denial(told.word, *told.parts), told.parts, told.parts[0], made,
                type("Below", (made,), {})(*told.parts), Looser(), look_alike(made.__name__, **dict(vars(told))),
                Way((2,), 2),
            ) + ODD_VALUES:
                self.assert_false(shows_verdict(four, number, value))

    def test_errors(self):
        far, far_flat = Four(walked(COINS.bends, WORD)), Four(walked(FLAT.bends, WORD))
        for paper in (Comes((), 1), ByList(1), ByRest(2), BySign(1, 1), None):
            for value in NO_FOURS:
                self.assert_error(BadFour("four"), shows_verdict, value, None, paper)
            for number in ODD_VALUES + (0, -1, 301, 10 ** 60, [12], 12.0, Looser()):
                for four in (COINS, FLAT, far_flat):
                    self.assert_error(BadNumber("number"), shows_verdict, four, number, paper)
            for number in (1, 2, 300):
                self.assert_error(TooMany("letters", 200), shows_verdict, far, number, paper)
                self.assert_error(TooMany("letters", 200), shows_verdict, far_flat, number, paper)
                self.assert_error(Flat(), shows_verdict, FLAT, number, paper)
                self.assert_error(Flat(), shows_verdict, Four(walked(FLAT.bends, WORD[:200])), number, paper)


if __name__ == "__main__":
    unittest.main()
