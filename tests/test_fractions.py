"""Promise 4: fractions. Python's own exact fractions are what the answers are held against."""

import unittest
from fractions import Fraction
from math import gcd

from helper import THIRTY, HelperMixin, as_exact, as_pair, kinds_under
from spotlook.errors import NoFraction
from spotlook.fractions import fraction, is_less, less, over, plus, times

WHOLE = (0, 1, -1, 2, -2, 3, -3, 6, -6, 12, -35, 97, 10 ** 15, 2 ** 64, -(2 ** 64),
         10 ** 29, -(10 ** 29), THIRTY, -THIRTY, THIRTY - 1)
FRACTIONS = tuple(as_pair(exact) for exact in sorted({Fraction(top, bottom) for top in WHOLE for bottom in
                                                      (1, 2, 3, 12, 97, 10 ** 29, THIRTY)}))


class Made(HelperMixin, unittest.TestCase):
    def test_ordinary(self):
        self.assert_told(fraction(3, 4), (3, 4))
        self.assert_told(fraction(7, 1), (7, 1))

    def test_common_divisor_is_taken_out(self):
        self.assert_told(fraction(6, 4), (3, 2))
        self.assert_told(fraction(12, 36), (1, 3))
        self.assert_told(fraction(-35, 14), (-5, 2))
        self.assert_told(fraction(5, 5), (1, 1))
        self.assert_told(fraction(9 * THIRTY, 6 * THIRTY), (3, 2))

    def test_bottom_below_0(self):
        self.assert_told(fraction(1, -2), (-1, 2))
        self.assert_told(fraction(-1, -2), (1, 2))
        self.assert_told(fraction(6, -4), (-3, 2))
        self.assert_told(fraction(-8, -4), (2, 1))

    def test_0_as_the_first_number(self):
        for bottom in WHOLE[1:]:
            self.assert_told(fraction(0, bottom), (0, 1))

    def test_every_sign_and_size(self):
        for top in WHOLE:
            for bottom in WHOLE[1:]:
                self.assert_told(fraction(top, bottom), as_pair(Fraction(top, bottom)))

    def test_form(self):
        for top in range(-30, 31):
            for bottom in list(range(-30, 0)) + list(range(1, 31)):
                told_top, told_bottom = fraction(top, bottom)
                self.assertGreaterEqual(told_bottom, 1)
                self.assertEqual(gcd(told_top, told_bottom), 1)
                self.assertEqual(told_top * bottom, top * told_bottom)

    def test_second_number_0(self):
        for top in WHOLE:
            self.assert_refused(NoFraction, fraction, top, 0)


class Reckoned(HelperMixin, unittest.TestCase):
    def test_ordinary(self):
        self.assert_told(plus((1, 2), (1, 3)), (5, 6))
        self.assert_told(less((1, 2), (1, 3)), (1, 6))
        self.assert_told(times((2, 3), (-3, 4)), (-1, 2))
        self.assert_told(over((1, 2), (-3, 4)), (-2, 3))

    def test_brought_to_lowest_terms(self):
        self.assert_told(plus((1, 6), (1, 3)), (1, 2))
        self.assert_told(less((5, 6), (1, 3)), (1, 2))
        self.assert_told(less((5, 7), (5, 7)), (0, 1))
        self.assert_told(times((0, 1), (-5, 7)), (0, 1))
        self.assert_told(over((5, 7), (5, 7)), (1, 1))
        self.assert_told(over((0, 1), (-5, 7)), (0, 1))

    def test_each_pair(self):
        for one in FRACTIONS:
            for other in FRACTIONS:
                exact, other_exact = as_exact(one), as_exact(other)
                self.assert_told(plus(one, other), as_pair(exact + other_exact))
                self.assert_told(less(one, other), as_pair(exact - other_exact))
                self.assert_told(times(one, other), as_pair(exact * other_exact))
                if other[0] != 0:
                    self.assert_told(over(one, other), as_pair(exact / other_exact))

    def test_over_0(self):
        for one in FRACTIONS:
            self.assert_refused(NoFraction, over, one, (0, 1))

    def test_is_less_of_each_pair(self):
        for one in FRACTIONS:
            for other in FRACTIONS:
                self.assertIs(is_less(one, other), as_exact(one) < as_exact(other), (one, other))

    def test_is_less_by_a_hair(self):
        one, other = (THIRTY - 1, THIRTY), (THIRTY - 2, THIRTY - 1)
        self.assertIs(is_less(one, other), False)
        self.assertIs(is_less(other, one), True)
        self.assertIs(is_less(one, one), False)


class WhatHoldsEverywhere(HelperMixin, unittest.TestCase):
    """Promise 2, as far as it touches fractions."""

    def test_of_kinds_under_the_told_ones_the_told_kinds_come(self):
        self.assert_told(fraction(kinds_under(3), kinds_under(4)), (3, 4))
        self.assert_told(fraction(kinds_under(-6), kinds_under(-4)), (3, 2))
        for deed, awaited in ((plus, (3, 4)), (less, (-1, 4)), (times, (1, 8)), (over, (1, 2)), (is_less, True)):
            self.assert_told(deed(kinds_under((1, 4)), kinds_under((1, 2))), awaited)

    def test_what_is_told_may_be_handed_in_again_however_great(self):
        one, exact = (1, 1), Fraction(1)
        for step in range(130):
            factor = (THIRTY - 2 * step, 10 ** 29 + 7 * step)
            factor = fraction(factor[0], factor[1])
            one, exact = plus(times(one, factor), (1, 3)), exact * as_exact(factor) + Fraction(1, 3)
        self.assertGreater(len(str(one[1])), 3000)
        self.assertLess(len(str(one[0])), 4000)
        self.assert_told(one, as_pair(exact))
        self.assert_told(over(one, one), (1, 1))
        self.assertIs(is_less(one, plus(one, (1, THIRTY))), True)

    def test_what_is_refused_changes_nothing(self):
        one, none = (2, 3), (0, 1)
        self.assert_refused(NoFraction, over, one, none)
        self.assert_refused(NoFraction, fraction, 2, 0)
        self.assertEqual((one, none), ((2, 3), (0, 1)))
        self.assert_told(over(one, (4, 3)), (1, 2))


if __name__ == "__main__":
    unittest.main()
