"""Promise 10: what a wall spans, which of two walls lies above the other, the upper one."""

import unittest
from fractions import Fraction
from random import Random

from helper import (THIRTY, HelperMixin, both_span, exact_above, exact_spot, exact_wall, kinds_under, many_plots, spot,
                    wall, walls_of)
from spotlook.above import is_above, spans, upper_of
from spotlook.plots import corners_of, plot_of
from spotlook.spots import wall_of

HAIR = Fraction(1, THIRTY)


class Spans(HelperMixin, unittest.TestCase):
    def test_between_the_ends_at_any_height(self):
        one = wall(0, 0, 4, 2)
        for y in (-THIRTY, 0, 1, 2, THIRTY):
            self.assertIs(spans(one, spot(2, y)), True)
            self.assertIs(spans(one, spot(HAIR, y)), True)
            self.assertIs(spans(one, spot(4 - HAIR, y)), True)
            self.assertIs(spans(one, spot(-HAIR, y)), False)
            self.assertIs(spans(one, spot(4 + HAIR, y)), False)

    def test_the_first_end_is_spanned_and_the_second_is_not(self):
        for one in walls_of([(0, 0, 4, 2), (0, 0, 4, 0), (0, 0, 4, -2), (1, 0, 1, 5)]):
            self.assertIs(spans(one, one[0]), True)
            self.assertIs(spans(one, one[1]), False)

    def test_straight_above_and_below_the_ends(self):
        one = wall(0, 0, 4, 2)
        self.assertIs(spans(one, spot(0, HAIR)), True)
        self.assertIs(spans(one, spot(0, -HAIR)), False)
        self.assertIs(spans(one, spot(4, 2 - HAIR)), True)
        self.assertIs(spans(one, spot(4, 2 + HAIR)), False)
        self.assertIs(spans(one, spot(4, -9)), True)

    def test_upright(self):
        one = wall(1, 0, 1, 5)
        self.assertIs(spans(one, spot(1, 3)), True)
        self.assertIs(spans(one, spot(1, -HAIR)), False)
        self.assertIs(spans(one, spot(1, 5 + HAIR)), False)
        self.assertIs(spans(one, spot(1 - HAIR, 3)), False)
        self.assertIs(spans(one, spot(1 + HAIR, 3)), False)

    def test_each_wall_and_corner(self):
        for plot in many_plots():
            for one in plot:
                first, second = exact_wall(one)
                for corner in corners_of(plot):
                    self.assertIs(spans(one, corner), first <= exact_spot(corner) < second)


class Above(HelperMixin, unittest.TestCase):
    def assert_above(self, one, other):
        plot_of([one, other])
        self.assertIs(is_above(one, other), True)
        self.assertIs(is_above(other, one), False)

    def assert_neither(self, one, other):
        plot_of([one, other])
        self.assertIs(is_above(one, other), False)
        self.assertIs(is_above(other, one), False)

    def test_first_ends_apart(self):
        self.assert_above(wall(1, 3, 5, 3), wall(0, 0, 4, 1))
        self.assert_above(wall(0, 3, 5, 3), wall(1, 0, 4, 1))
        # The other's second end lies higher than the one's first end.
        self.assert_above(wall(1, 2, 9, 30), wall(0, 0, 8, 8))
        self.assert_above(wall(0, 0, 8, 8), wall(1, 0, 9, 8))

    def test_by_a_hair(self):
        long = wall(-THIRTY, -THIRTY, THIRTY, THIRTY)
        self.assert_above(wall(0, HAIR, 1, 2), long)
        self.assert_above(long, wall(0, -HAIR, 1, 0))

    def test_common_first_end(self):
        self.assert_above(wall(0, 0, 4, 2), wall(0, 0, 4, 1))
        self.assert_above(wall(0, 0, 4, 2), wall(0, 0, 9, 1))
        self.assert_above(wall(0, 0, 9, 5), wall(0, 0, 4, 1))
        self.assert_above(wall(0, 0, 1, 3), wall(0, 0, 4, 5))

    def test_common_second_end(self):
        self.assert_above(wall(0, 2, 4, 0), wall(0, 1, 4, 0))
        self.assert_above(wall(1, 2, 4, 0), wall(0, -9, 4, 0))
        self.assert_above(wall(0, 9, 4, 0), wall(1, 2, 4, 0))

    def test_upright_and_another_one(self):
        upright = wall(0, 0, 0, 2)
        self.assert_above(wall(-1, 5, 1, 4), upright)
        self.assert_above(upright, wall(-1, -5, 1, -4))
        self.assert_above(upright, wall(0, 0, 3, 9))
        self.assert_above(wall(-3, -9, 0, 2), upright)
        self.assert_above(upright, wall(0, -1, 3, 9))
        self.assert_above(wall(-3, -9, 0, 3), upright)

    def test_both_span_but_a_stretch_of_one_x(self):
        # At x = 0 the one's second end is higher than the other's first end.
        self.assert_above(wall(-4, 0, 0, 5), wall(0, 3, 4, 0))

    def test_no_spot_that_both_span(self):
        self.assert_neither(wall(0, 0, 1, 0), wall(2, 5, 3, 5))
        self.assert_neither(wall(0, 0, 1, 0), wall(1, 0, 3, 5))
        self.assert_neither(wall(-4, 0, 0, 3), wall(0, 5, 4, 0))
        self.assert_neither(wall(0, 0, 0, 2), wall(0, 2, 0, 3))
        self.assert_neither(wall(0, 0, 0, 2), wall(0, 5, 0, 9))
        self.assert_neither(wall(0, 0, 0, 2), wall(0, 2, 3, 3))
        self.assert_neither(wall(0, 0, 0, 2), wall(-3, 0, 0, 0))
        self.assert_neither(wall(0, 0, 0, 2), wall(1, 0, 1, 2))

    def test_each_pair_of_many_plots(self):
        spanning = 0
        for plot in many_plots():
            for one in plot:
                for other in plot:
                    if one != other:
                        self.assertIs(is_above(one, other), exact_above(one, other), (one, other))
                        spanning += both_span(one, other)
                        self.assertEqual(is_above(one, other) or is_above(other, one), both_span(one, other))
        self.assertGreater(spanning, 1000)


class Upper(HelperMixin, unittest.TestCase):
    def test_of_one(self):
        self.assert_told(upper_of([wall(0, 0, 3, 1)]), wall(0, 0, 3, 1))
        self.assert_told(upper_of([wall(0, 0, 0, 1)]), wall(0, 0, 0, 1))

    def test_of_several_in_any_order(self):
        walls = walls_of([(0, 0, 4, 4), (0, 0, 4, 9), (1, 7, 9, 7), (2, 9, 2, 11), (-5, 20, 2, 12), (0, -3, 4, 4)])
        for seed in range(20):
            Random(seed).shuffle(walls)
            self.assert_told(upper_of(walls), wall(-5, 20, 2, 12))
            self.assert_told(upper_of([one for one in walls if one[0] != spot(-5, 20)]), wall(2, 9, 2, 11))

    def test_of_those_that_span_a_corner(self):
        for plot in many_plots():
            for corner in corners_of(plot):
                walls = [one for one in plot if spans(one, corner)]
                if walls:
                    upper = upper_of(walls)
                    self.assertIn(upper, walls)
                    self.assertTrue(all(exact_above(upper, one) for one in walls if one != upper))
                    self.assert_told(upper_of(walls[::-1]), upper)


class WhatHoldsEverywhere(HelperMixin, unittest.TestCase):
    """Promise 2, as far as it touches what lies above what."""

    def test_of_kinds_under_the_told_ones_the_told_kinds_come(self):
        one, other = wall(0, 3, 5, Fraction(7, 2)), wall(1, 0, 4, 1)
        self.assertIs(is_above(kinds_under(one), kinds_under(other)), True)
        self.assertIs(spans(kinds_under(one), kinds_under(spot(0, 3))), True)
        self.assert_told(upper_of(kinds_under([other, one])), one)

    def test_nothing_that_is_handed_in_is_changed(self):
        walls = walls_of([(0, 0, 4, 4), (0, 0, 4, 9), (1, 7, 9, 7)])
        before = list(walls)
        upper_of(walls)
        self.assertEqual(walls, before)

    def test_great_numbers_that_were_told(self):
        great = Fraction(10 ** 999 + 1, 3 ** 2000)
        one = wall_of(spot(-great, great), spot(great, great + Fraction(1, 3 ** 2001)))
        other = wall_of(spot(-great, great), spot(great * 2, great))
        self.assertIs(is_above(one, other), True)
        self.assertIs(is_above(other, one), False)
        self.assert_told(upper_of([other, one]), one)
        self.assertIs(spans(one, spot(great, great)), True)


if __name__ == "__main__":
    unittest.main()
