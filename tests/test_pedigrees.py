"""Pedigrees: the way down from a four to a flat one, and the steps back."""

import random
import time
import unittest

from bendsigns.errors import BadFour, BadWord, TooMany
from bendsigns.fours import Four
from bendsigns.leasts import Least
from bendsigns.papers import Denial, Paper
from bendsigns.pedigrees import Pedigree, built, pedigree, shows_pedigree
from bendsigns.rims import rim_fours
from tests.helps import ODD_VALUES, Case, Looser, look_alike
from tests.walks import along, walked, way_down, words_up_to

COINS, FLAT = Four((-3, 5, 8, 8)), Four((0, 0, 1, 1))
FLATS = ((0, 0, 1, 1), (0, 1, 0, 1), (1, 0, 0, 1), (0, 1, 1, 0), (1, 0, 1, 0), (1, 1, 0, 0))


def chain(number):
    """The four of this rim with the longest pedigree: one turning for each rim from it down to 1."""
    square = number * number + number
    return Four((-number, number + 1, square, square + 1))


def drawn_steps(draw, bends, many, length):
    """Drawn steps that all turn at bends above 0 of the fours to which they lead from bends."""
    steps = []
    for _ in range(many):
        place = draw.choice([at for at in range(4) if bends[at] > 0])
        steps.append((place, tuple(draw.randrange(4) for _ in range(draw.randrange(length + 1)))))
        bends, _ = along(bends, steps[-1:])
    return tuple(steps)


def far_flat(letters):
    """A four of a flat gasket that takes so many exchanges down to a flat one."""
    return Four(walked((0, 0, 1, 1), [at % 4 for at in range(letters)]))


class Pedigrees(Case):
    """pedigree itself."""

    def check(self, four):
        """What is told is what the tests' own way down tells, and leads back."""
        told = pedigree(four)
        rims, base, steps = way_down(four.bends)
        self.assertIsInstance(told, Pedigree)
        self.assertEqual((told.rims, told.base.bends, told.steps), (rims, base, steps))
        self.assertEqual(told.parts, (rims, Four(base), steps))
        self.assertEqual(built(told.base, told.steps), four)
        self.assertEqual(list(rims), sorted(set(rims), reverse=True))
        self.assert_true(shows_pedigree(four, told))

    def test_all_small_rims(self):
        for number in range(1, 41):
            for four in rim_fours(number):
                self.check(four)
                self.check(four.in_order((2, 3, 1, 0)))
                self.check(four.after([1, 3, 0]))

    def test_flat(self):
        for bends in FLATS:
            self.assertEqual(pedigree(Four(bends)).parts, ((), Four(bends), ()))
            for word in words_up_to(3):
                four = Four(walked(bends, word))
                self.assertEqual(pedigree(four=four).parts, ((), four, ()))

    def test_rims_are_the_bends_that_were_turned(self):
        draw = random.Random(7)
        for turn in range(300):
            start = draw.choice(FLATS)
            steps = drawn_steps(draw, start, draw.randrange(6), 6)
            bends, turns = along(start, steps)
            self.assertEqual(pedigree(Four(bends)).rims, tuple(reversed(turns)))
            self.check(Four(bends))
            self.assert_true(shows_pedigree(Four(bends), Pedigree(turns[::-1], Four(start), steps)))

    def test_a_hundred_turnings(self):
        self.check(chain(100))
        self.assertEqual(pedigree(chain(100)).rims, tuple(range(100, 0, -1)))
        self.assert_error(TooMany("turnings", 100), pedigree, chain(101))
        self.assert_error(TooMany("turnings", 100), pedigree, chain(10 ** 20))
        self.assert_error(TooMany("turnings", 100), shows_pedigree, chain(101), pedigree(COINS))

    def test_letters(self):
        for start in ((-3, 5, 8, 8), (0, 0, 1, 1)):
            word = [at % 4 for at in range(201)]
            self.check(Four(walked(start, word[:200])))
            self.assert_error(TooMany("letters", 200), pedigree, Four(walked(start, word)))
            self.assert_error(TooMany("letters", 200), shows_pedigree, Four(walked(start, word)), None)

    def test_letters_further_down(self):
        # The four is least, but what comes of its turning is far from the least four of its gasket.
        for letters, told in ((200, True), (201, False)):
            base = walked((-3, 5, 8, 8), [at % 4 for at in range(letters)])
            bends, _ = along(base, ((base.index(max(base)), ()),))
            four = Four(bends)
            if told:
                self.assertEqual(pedigree(four).rims, (max(base), 3, 1))
                self.check(four)
            else:
                self.assert_error(TooMany("letters", 200), pedigree, four)

    def test_what_comes_first_on_the_way_down(self):
        # Letters ahead of a first turning, turnings ahead of letters that would be needed behind them.
        far = Four(walked(chain(101).bends, [at % 4 for at in range(1, 202)]))
        self.assert_error(TooMany("letters", 200), pedigree, far)
        near = Four(walked(chain(101).bends, [at % 4 for at in range(1, 101)]))
        self.assert_error(TooMany("turnings", 100), pedigree, near)

    def test_errors(self):
        for value in ODD_VALUES + ((-3, 5, 8, 8), [0, 0, 1, 1], 0):
            self.assert_error(BadFour("four"), pedigree, value)
            self.assert_error(BadFour("four"), shows_pedigree, value, pedigree(COINS))

    def test_short_time(self):
        began = time.process_time()
        four = Four(walked(chain(100).bends, [at % 4 for at in range(1, 201)]))
        told = pedigree(four)
        self.assertEqual(built(told.base, told.steps), four)
        self.assert_true(shows_pedigree(four, told))
        self.assertLess(time.process_time() - began, 5)


class Built(Case):
    """built: from any four along any steps."""

    def test_any_base_and_steps(self):
        draw = random.Random(11)
        for turn in range(300):
            base = walked(draw.choice(FLATS + ((-3, 5, 8, 8), (-1, 2, 2, 3), (28, 25, -12, 25))),
                          [draw.randrange(4) for _ in range(draw.randrange(5))])
            steps = [[draw.randrange(4), [draw.randrange(4) for _ in range(draw.randrange(8))]]
                     for _ in range(draw.randrange(7))]
            self.assertEqual(built(Four(base), steps).bends, along(base, steps)[0])
            self.assertEqual(built(base=Four(base), steps=tuple(steps)).bends, along(base, steps)[0])

    def test_no_steps(self):
        self.assertEqual(built(COINS, []), COINS)
        self.assertEqual(built(FLAT, [(0, ()), (1, [])]), FLAT)
        self.assertEqual(built(COINS, [(2, ()), (2, ())]), COINS)

    def test_errors(self):
        steps = [(0, ())]
        for value in ODD_VALUES + ((-3, 5, 8, 8), [0, 0, 1, 1], 0):
            self.assert_error(BadFour("base"), built, value, None)
        for value in ODD_VALUES:
            self.assert_error(BadWord("steps"), built, COINS, value)
        for step in (None, 0, (), (0,), (0, (), ()), (4, ()), (-1, ()), (True, ()), (0, None), (0, 0), (0, (4,)),
                     (0, [True]), ((), 0), "0", {0: ()}, (0, "0"), (0.0, ())):
            for value in ([step], steps + [step], [step] + steps, [step] * 101, (step,)):
                self.assert_error(BadWord("steps"), built, COINS, value)
        self.assert_error(BadWord("steps"), built, COINS, (0, ()))

    def test_too_many(self):
        short, long = (1, ()), (0, [2, 3] * 100 + [2])
        self.assertEqual(built(COINS, [(0, [2, 3] * 100)]).bends, along(COINS.bends, [(0, [2, 3] * 100)])[0])
        self.assertEqual(built(COINS, [short] * 100), COINS)
        self.assert_error(TooMany("turnings", 100), built, COINS, [short] * 101)
        self.assert_error(TooMany("turnings", 100), built, COINS, [long] * 101)
        self.assert_error(TooMany("letters", 200), built, COINS, [long])
        self.assert_error(TooMany("letters", 200), built, COINS, [short] * 99 + [long])
        self.assert_error(BadWord("steps"), built, COINS, [long] * 101 + [None])

    def test_short_time(self):
        began = time.process_time()
        built(COINS, [(1, [at % 4 for at in range(200)])] * 100)
        self.assertLess(time.process_time() - began, 10)


class Shown(Case):
    """shows_pedigree of right and bent papers."""

    def test_other_words(self):
        # The exchange at place 0 of what comes of the first turning, 3, -1, 2, 2, keeps the 3.
        base = Four((1, 1, 0, 0))
        for steps in (
            ((1, ()), (0, ())), [[1, [2, 2]], [0, [3, 1, 1, 3]]], ((1, (0,)), (0, ())), ((1, (2, 2) * 300), (0, ())),
        ):
            self.assert_true(shows_pedigree(COINS, Pedigree([3, 1], base, steps)))
        self.assert_true(shows_pedigree(four=COINS, value=pedigree(COINS)))

    def test_another_base(self):
        # Any four of the flat gasket may be the base: a step leads on from what is there.
        base = Four((1, 1, 0, 0))
        far = base.after([2, 0])
        self.assert_true(shows_pedigree(base, Pedigree([], base, [])))
        self.assert_true(shows_pedigree(far, Pedigree([], far, [])))
        self.assert_false(shows_pedigree(far, Pedigree([], base, [])))
        turned = Four(along(far.bends, [(1, ())])[0])
        self.assert_true(shows_pedigree(turned, Pedigree([far.bends[1]], far, [(1, ())])))

    def test_far_bases(self):
        for letters, right in ((199, True), (200, True), (201, False), (260, False)):
            base = far_flat(letters)
            self.assertIs(shows_pedigree(COINS, Pedigree([3, 1], base, pedigree(COINS).steps)), False)
            at = base.bends.index(max(base.bends))
            four = Four(along(base.bends, ((at, ()),))[0])
            if letters <= 200:
                self.assertIs(shows_pedigree(four, Pedigree([max(base.bends)], base, [(at, ())])), right)
            else:
                self.assert_error(TooMany("letters", 200), shows_pedigree, four, None)

    def test_a_base_beyond_the_bound(self):
        # The last exchange up to the base is taken back behind the turning, which lets it through.
        near, base, last = far_flat(200), far_flat(201), 200 % 4
        place = [at for at in range(4) if at != last and near.bends[at] > 0][0]
        four = Four(along(near.bends, ((place, ()),))[0])
        self.assertEqual(built(base, [(place, (last,))]), four)
        self.assert_true(shows_pedigree(four, Pedigree([near.bends[place]], near, [(place, ())])))
        self.assert_false(shows_pedigree(four, Pedigree([near.bends[place]], base, [(place, (last,))])))

    def test_bent_rims(self):
        told = pedigree(COINS)
        for rims in ((1, 3), (3,), (1,), (), (3, 1, 1), (3, 3, 1), (0, 3, 1), (4, 1), (3, True), (3, 1.0), (3, "1"),
                     (3, None), (-3, -1), (3, (1,)), ((3, 1),), None, True, 3, "3 1", Looser(), (3, Looser()),
                     {3: 1}):
            self.assert_false(shows_pedigree(COINS, Pedigree(rims, told.base, told.steps)))

    def test_bent_bases(self):
        told = pedigree(COINS)
        for base in ODD_VALUES + (
            (1, 1, 0, 0), [1, 1, 0, 0], FLAT, COINS, Four((1, 1, 4, 0)), Looser(), told, Four((-1, 2, 2, 3)), "1 1 0 0",
            look_alike("Four", bends=(1, 1, 0, 0), total=2),
        ):
            self.assert_false(shows_pedigree(COINS, Pedigree(told.rims, base, told.steps)))
        # From a base that is not flat the steps lead there too.
        self.assert_false(shows_pedigree(COINS, Pedigree([], COINS, [])))
        self.assert_false(shows_pedigree(COINS, Pedigree([3], Four((3, -1, 2, 2)), [(0, ())])))

    def test_bent_steps(self):
        told = pedigree(COINS)
        first, last = told.steps
        for steps in ODD_VALUES + (
            (), (first,), (last,), (last, first), (first, last, last), (first, last, last, last), ((2, ()), last),
            (first, (3, ())), (first, (0, (1,))), ((1, (1,)), last), (first, (0,)), (first, 0), (first, (0, (), ())),
            ((True, ()), (False, ())), (first, (False, ())), (first, (0, None)), (first, (0, (4, 4))), (first, (4, ())),
            ((1, (True, True)), last), (first, last, None), first, Looser(), (first, Looser()), (first, (0, Looser())),
            {1: (), 0: ()}, "10", ((1, (2.0, 2.0)), last), ((1, "22"), last),
        ):
            self.assert_false(shows_pedigree(COINS, Pedigree(told.rims, told.base, steps)))

    def test_turnings_at_bends_not_above_zero(self):
        # Turned at a line nothing changes; turned twice all is as it was. Neither is a step of a pedigree.
        base = Four((1, 1, 0, 0))
        self.assert_false(shows_pedigree(COINS, Pedigree([3, 1, 0], base, [(2, ()), (1, ()), (0, ())])))
        self.assert_false(shows_pedigree(COINS, Pedigree([3, 1], base, [(2, ()), (1, ()), (0, ())])))
        self.assert_false(shows_pedigree(
            COINS, Pedigree([3, 1, -1, 1], base, [(1, ()), (1, ()), (1, ()), (0, ())])))
        self.assert_false(shows_pedigree(base, Pedigree([-1, 1], base, [(1, ()), (1, ())])))

    def test_of_another_class(self):
        told = pedigree(COINS)
        for value in ODD_VALUES + (
            Paper("pedigree", *told.parts), Denial("pedigree", *told.parts), Least(*told.parts[:2]), told.parts, COINS,
            type("Below", (Pedigree,), {})(*told.parts), Looser(), Pedigree,
            look_alike("Pedigree", rims=told.rims, base=told.base, steps=told.steps, parts=told.parts, word="pedigree"),
            pedigree(FLAT), pedigree(COINS.exchanged(1)),
        ):
            self.assert_false(shows_pedigree(COINS, value))

    def test_long_papers(self):
        began = time.process_time()
        base = Four((1, 1, 0, 0))
        word = (2, 0, 3, 1) * 1100
        self.assert_true(shows_pedigree(COINS, Pedigree([3, 1], base, [(1, word + word[::-1]), (0, ())])))
        self.assert_false(shows_pedigree(COINS, Pedigree([3, 1], base, [(1, ())] * 2400)))
        self.assertLess(time.process_time() - began, 10)


if __name__ == "__main__":
    unittest.main()
