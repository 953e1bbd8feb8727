"""Products of forms and of gaskets, contraries, powers, orders."""

import itertools
import math
import time
import unittest

from bendsigns.around import form_at
from bendsigns.errors import BadForm, BadFour, BadNumber, Flat, Misfit, TooMany
from bendsigns.forms import Form
from bendsigns.fours import Four
from bendsigns.leastforms import least_form
from bendsigns.products import contrary, gasket_product, idle_form, order, power, product
from bendsigns.rims import rim_fours
from tests.helps import ODD_VALUES, Case, Looser, look_alike
from tests.products import least_table, numbers_changed, own_product, reduced
from tests.walks import is_least, lowered, walked

TABLE = least_table(60)
NO_FORMS = ODD_VALUES + ((2, 1, 5), [2, 1, 5], "2 1 5", 5, Four((0, 0, 1, 1)), Looser(),
                         look_alike("Form", numbers=(2, 1, 5), side=3))
NO_FOURS = ODD_VALUES + ((-3, 5, 8, 8), [0, 0, 1, 1], 0, Form(2, 1, 5))
FLAT, COINS = Four((0, 0, 1, 1)), Four((-3, 5, 8, 8))
BIG = 10 ** 59 + 7


def forms_of(side):
    """All least forms of a side."""
    return [Form(*numbers) for numbers in TABLE[side]]


class Idle(Case):
    """idle_form."""

    def test_all(self):
        for side in (1, 2, 3, 60, 61, 10 ** 6 + 3, BIG):
            told = idle_form(side=side)
            self.assertIsInstance(told, Form)
            self.assertEqual((told.numbers, told.side), ((1, 0, side * side), side))

    def test_errors(self):
        for value in ODD_VALUES + (0, -1, -BIG, [3], 3.0, Looser()):
            self.assert_error(BadNumber("side"), idle_form, value)


class Products(Case):
    """product."""

    def test_all_least_forms(self):
        for side in range(1, 61):
            for one, other in itertools.product(forms_of(side), repeat=2):
                told = product(one, other)
                self.assertIsInstance(told, Form)
                self.assertEqual(told.numbers, own_product(one.numbers, other.numbers))
                self.assertIn(told.numbers, TABLE[side])

    def test_three_in_any_order(self):
        for side in (12, 21, 25, 36, 41, 60):
            for one, other, third in itertools.combinations(forms_of(side), 3):
                told = product(product(one, other), third)
                self.assertEqual(told, product(one, product(other, third)))
                self.assertEqual(told, product(product(third, one), other))
                self.assertEqual(product(one, other), product(other, one))

    def test_idle_and_contrary(self):
        for side in range(1, 61):
            idle = idle_form(side)
            for form in forms_of(side):
                self.assertEqual(product(form, idle), form)
                self.assertEqual(product(idle, form), form)
                self.assertEqual(product(form, contrary(form)), idle)

    def test_forms_that_are_not_least(self):
        changes = ((1, 3, 0, 1), (2, 5, 1, 3), (0, -1, 1, 0), (7, -3, -2, 1), (1, 0, -4, 1))
        for side in (3, 12, 24, 35):
            for one, other in itertools.product(forms_of(side), repeat=2):
                wanted = product(one, other)
                for change, later in zip(changes, changes[1:] + changes[:1]):
                    self.assertEqual(product(one=one.changed(*change), other=other.changed(*later)), wanted)

    def test_values_are_multiplied(self):
        # The product of a value of the one form and one of the other is a value of the product.
        for side in (5, 12, 30):
            for one, other in itertools.product(forms_of(side), repeat=2):
                told = product(one, other).numbers
                worths = {numbers_changed(told, x, 0, y, 1)[0] for x in range(-40, 41) for y in range(-40, 41)}
                self.assertIn(one.numbers[0] * other.numbers[0], worths)

    def test_great_sides(self):
        began = time.process_time()
        for side in (61, 997, 10 ** 6 + 3, 2 ** 90, 3 ** 61, BIG, 5 * 13 * 17 * 29 * 10 ** 40):
            forms = [idle_form(side)]
            for t in (1, 2, 3, 10, 41):
                whole = t * t + side * side
                for first in (2, 5, 10, 13, 25):
                    if whole % first == 0 and math.gcd(first, t, whole // first) == 1:
                        forms.append(Form(first, t, whole // first))
                        forms.append(Form(whole // first, -t, first))
            for one, other in itertools.product(forms, repeat=2):
                self.assertEqual(product(one, other).numbers, own_product(one.numbers, other.numbers))
        self.assertLess(time.process_time() - began, 5)

    def test_errors(self):
        form = Form(2, 1, 5)
        for value in NO_FORMS:
            self.assert_error(BadForm("one"), product, value, None)
            self.assert_error(BadForm("other"), product, form, value)
        self.assert_error(Misfit("side"), product, form, Form(1, 0, 16))
        self.assert_error(Misfit("side"), product, Form(1, 0, 16), form)
        self.assertEqual(form.numbers, (2, 1, 5))


class Contraries(Case):
    """contrary."""

    def test_all(self):
        for side in range(1, 61):
            for form in forms_of(side):
                first, half, last = form.numbers
                told = contrary(form)
                self.assertEqual(told.numbers, reduced((first, -half, last)))
                self.assertEqual(contrary(form=told), form)
                self.assertEqual(contrary(form.changed(2, 5, 1, 3)), told)

    def test_errors(self):
        for value in NO_FORMS:
            self.assert_error(BadForm("form"), contrary, value)


class Powers(Case):
    """power and order."""

    def test_small_powers(self):
        for side in (1, 2, 3, 12, 25, 40, 41, 60):
            for form in forms_of(side):
                wanted = idle_form(side)
                for times in range(12):
                    self.assertEqual(power(form, times), wanted)
                    wanted = Form(*own_product(wanted.numbers, form.numbers))

    def test_great_powers(self):
        began = time.process_time()
        for side in (12, 59, 60):
            for form in forms_of(side):
                many = order(form)
                for times in (10 ** 60 - 1, 2 ** 199, 3 * 10 ** 59 + 17, 6 ** 70):
                    self.assertEqual(power(form=form, times=times), power(form, times % many))
                self.assertEqual(power(form, many * 10 ** 50), idle_form(side))
        self.assertLess(time.process_time() - began, 5)

    def test_great_sides(self):
        began = time.process_time()
        side = 10 ** 29 + 57
        form = Form(*reduced((2, 1, (1 + side * side) // 2)))
        self.assertEqual(product(power(form, 10 ** 20), power(form, 7)), power(form, 10 ** 20 + 7))
        self.assertEqual(power(power(form, 1000), 1001), power(form, 1001000))
        self.assertLess(time.process_time() - began, 3)

    def test_orders(self):
        for side in range(1, 61):
            many = len(TABLE[side])
            for form in forms_of(side):
                told = order(form)
                now, times = form.numbers, 1
                while now != (1, 0, side * side):
                    now, times = own_product(now, form.numbers), times + 1
                self.assertEqual(told, times)
                self.assertEqual(many % told, 0)
                self.assertEqual(order(form=form.changed(2, 5, 1, 3)), told)

    def test_errors(self):
        form = Form(2, 1, 5)
        for value in NO_FORMS:
            self.assert_error(BadForm("form"), power, value, None)
            self.assert_error(BadForm("form"), order, value)
        for value in ODD_VALUES + (-1, -BIG, [3], 3.0, Looser()):
            self.assert_error(BadNumber("times"), power, form, value)
        for side in (61, 62, 1000, BIG):
            self.assert_error(TooMany("side", 60), order, idle_form(side))
        self.assertEqual(power(idle_form(61), 5), idle_form(61))


class GasketProducts(Case):
    """gasket_product."""

    def own(self, one, other):
        """The bends told of the product of the gaskets of two fours' bends."""
        forms = []
        for bends in (lowered(one)[0], lowered(other)[0]):
            place = bends.index(min(bends))
            near, middle, far = [bends[at] for at in range(4) if at != place]
            here = bends[place]
            forms.append((here + near, (here + near + middle - far) // 2, here + middle))
        first, half, last = own_product(*forms)
        rim = -min(lowered(one)[0])
        if half >= 0:
            return (-rim, first + rim, last + rim, first + last - 2 * half + rim)
        return (-rim, last + rim, first + rim, first + last + 2 * half + rim)

    def test_all_small_rims(self):
        signs = set()
        orders = tuple(itertools.permutations(range(4)))
        for number in range(1, 31):
            fours = rim_fours(number)
            for turn, (one, other) in enumerate(itertools.product(fours, repeat=2)):
                for k in (0, 1, 2):
                    mine = one.in_order(orders[(5 * turn + 7 * k) % 24])
                    theirs = other.in_order(orders[(11 * turn + 5 * k + 3) % 24])
                    told = gasket_product(mine, theirs)
                    self.assertIsInstance(told, Four)
                    self.assertEqual(told.bends, self.own(mine.bends, theirs.bends))
                    self.assertTrue(is_least(told.bends) and told.bends[0] == -number)
                    signs.add(product(form_at(lowered_four(mine), rim_place(mine)),
                                      form_at(lowered_four(theirs), rim_place(theirs))).numbers[1] < 0)
        self.assertEqual(signs, {True, False})

    def test_the_form_of_what_is_told(self):
        for number in (12, 21, 30):
            for one, other in itertools.product(rim_fours(number), repeat=2):
                for order_of in ((0, 1, 2, 3), (0, 2, 1, 3), (3, 1, 0, 2)):
                    mine = one.in_order(order_of)
                    wanted = product(form_at(mine, order_of.index(0)), form_at(other, 0))
                    self.assertEqual(least_form(form_at(gasket_product(mine, other), 0)).form, wanted)

    def test_behind_words(self):
        one, other = Four((-12, 17, 41, 44)), Four((25, -12, 28, 25))
        wanted = gasket_product(one=one, other=other)
        for word in ((0,), (1, 2), (3, 2, 1, 0), [at % 4 for at in range(200)]):
            self.assertEqual(gasket_product(Four(walked(one.bends, word)), other), wanted)
            self.assertEqual(gasket_product(one, Four(walked(other.bends, word))), wanted)

    def test_orders_of_places(self):
        one = Four((-12, 17, 41, 44))
        self.assertEqual(gasket_product(one, one).bends, (-12, 21, 28, 37))
        self.assertEqual(gasket_product(one, one.in_order((0, 2, 1, 3))).bends, (-12, 13, 156, 157))

    def test_great_rims(self):
        for rim in (61, 10 ** 6 + 1, 10 ** 29):
            square = rim * rim + rim
            one = Four((-rim, rim + 1, square, square + 1))
            self.assertEqual(gasket_product(one, one), one)

    def test_errors(self):
        one, other = Four((-12, 17, 41, 44)), Four((-3, 5, 8, 8))
        for value in NO_FOURS:
            self.assert_error(BadFour("one"), gasket_product, value, None)
            self.assert_error(BadFour("other"), gasket_product, one, value)
            self.assert_error(BadFour("other"), gasket_product, FLAT, value)
        self.assert_error(Misfit("rim"), gasket_product, one, other)
        for four in (FLAT, FLAT.after([0, 1]), FLAT.in_order((3, 0, 2, 1))):
            self.assert_error(Flat(), gasket_product, one, four)
            self.assert_error(Flat(), gasket_product, four, one)
            self.assert_error(Flat(), gasket_product, four, FLAT)

    def test_two_hundred_exchanges(self):
        word = [at % 4 for at in range(201)]
        near, far = Four(walked(COINS.bends, word[:200])), Four(walked(COINS.bends, word))
        far_flat = Four(walked(FLAT.bends, word))
        self.assertEqual(gasket_product(near, COINS), gasket_product(COINS, COINS))
        for four in (COINS, FLAT, Four((-12, 17, 41, 44)), far, far_flat):
            for distant in (far, far_flat):
                self.assert_error(TooMany("letters", 200), gasket_product, distant, four)
                self.assert_error(TooMany("letters", 200), gasket_product, four, distant)


def lowered_four(four):
    """The least four of a gasket."""
    return Four(lowered(four.bends)[0])


def rim_place(four):
    """The place of the rim in the least four."""
    bends = lowered(four.bends)[0]
    return bends.index(min(bends))


if __name__ == "__main__":
    unittest.main()
