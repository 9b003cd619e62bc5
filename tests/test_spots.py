"""Promises 5 and 6: spots in their order, walls, sides, and what lies on a wall."""

import unittest
from fractions import Fraction

from helper import THIRTY, HelperMixin, exact_spot, kinds_under, spot
from spotlook.errors import NoWall
from spotlook.spots import is_ahead, lies_on, side_of, wall_of

# A small grid has spots with one x, with one y, and many that lie in one line.
NUMBERS = (-2, Fraction(-1, 2), 0, Fraction(1, 3), 1)
GRID = tuple(spot(x, y) for x in NUMBERS for y in NUMBERS)
FAR = (spot(THIRTY, -THIRTY), spot(-THIRTY, Fraction(1, THIRTY)), spot(Fraction(THIRTY, THIRTY - 1), THIRTY - 1))
SPOTS = GRID + FAR


class Order(HelperMixin, unittest.TestCase):
    def test_by_x(self):
        self.assertIs(is_ahead(spot(0, 5), spot(1, -5)), True)
        self.assertIs(is_ahead(spot(1, -5), spot(0, 5)), False)
        self.assertIs(is_ahead(spot(Fraction(1, 3), 0), spot(Fraction(1, 2), 0)), True)
        self.assertIs(is_ahead(spot(Fraction(-1, 3), 0), spot(Fraction(-1, 2), 0)), False)

    def test_by_y_where_the_xs_are_alike(self):
        self.assertIs(is_ahead(spot(2, -1), spot(2, Fraction(1, 7))), True)
        self.assertIs(is_ahead(spot(2, Fraction(1, 7)), spot(2, -1)), False)

    def test_with_one_y(self):
        self.assertIs(is_ahead(spot(-3, 4), spot(2, 4)), True)
        self.assertIs(is_ahead(spot(2, 4), spot(-3, 4)), False)

    def test_alike(self):
        for one in SPOTS:
            self.assertIs(is_ahead(one, one), False)

    def test_each_pair(self):
        for one in SPOTS:
            for other in SPOTS:
                self.assertIs(is_ahead(one, other), exact_spot(one) < exact_spot(other), (one, other))


class Walls(HelperMixin, unittest.TestCase):
    def test_in_any_order(self):
        first, second = spot(0, 1), spot(Fraction(5, 2), -3)
        wall = (((0, 1), (1, 1)), ((5, 2), (-3, 1)))
        self.assert_told(wall_of(first, second), wall)
        self.assert_told(wall_of(second, first), wall)

    def test_upright_and_level(self):
        self.assert_told(wall_of(spot(1, 4), spot(1, -4)), (spot(1, -4), spot(1, 4)))
        self.assert_told(wall_of(spot(4, 1), spot(-4, 1)), (spot(-4, 1), spot(4, 1)))

    def test_each_pair(self):
        for one in SPOTS:
            for other in SPOTS:
                if one != other:
                    ends = sorted((one, other), key=exact_spot)
                    self.assert_told(wall_of(one, other), (ends[0], ends[1]))

    def test_of_two_alike(self):
        for one in SPOTS:
            self.assert_refused(NoWall, wall_of, one, one)
            self.assert_refused(NoWall, wall_of, one, (tuple(one[0]), tuple(one[1])))


class Sides(HelperMixin, unittest.TestCase):
    def test_above_and_below_a_slope(self):
        wall = wall_of(spot(0, 0), spot(3, 1))
        self.assert_told(side_of(wall, spot(1, Fraction(1, 2))), 1)
        self.assert_told(side_of(wall, spot(1, Fraction(1, 3))), 0)
        self.assert_told(side_of(wall, spot(1, Fraction(1, 4))), -1)

    def test_level(self):
        wall = wall_of(spot(3, 2), spot(0, 2))
        self.assert_told(side_of(wall, spot(1, 3)), 1)
        self.assert_told(side_of(wall, spot(1, 1)), -1)

    def test_upright(self):
        wall = wall_of(spot(2, 5), spot(2, 0))
        self.assert_told(side_of(wall, spot(1, 3)), 1)
        self.assert_told(side_of(wall, spot(2, 3)), 0)
        self.assert_told(side_of(wall, spot(3, 3)), -1)

    def test_ends(self):
        for other in SPOTS[1:]:
            wall = wall_of(SPOTS[0], other)
            self.assert_told(side_of(wall, wall[0]), 0)
            self.assert_told(side_of(wall, wall[1]), 0)

    def test_beside_the_ends_the_line_counts(self):
        wall = wall_of(spot(0, 0), spot(2, 2))
        for x in (-9, 9):
            self.assert_told(side_of(wall, spot(x, x)), 0)
            self.assert_told(side_of(wall, spot(x, x + 1)), 1)
            self.assert_told(side_of(wall, spot(x, x - 1)), -1)

    def test_by_a_hair(self):
        wall = wall_of(spot(0, 0), spot(THIRTY, THIRTY - 1))
        x = THIRTY - 1
        y = Fraction(x * (THIRTY - 1), THIRTY)
        self.assert_told(side_of(wall, spot(x, y)), 0)
        self.assert_told(side_of(wall, spot(x, y + Fraction(1, THIRTY))), 1)
        self.assert_told(side_of(wall, spot(x, y - Fraction(1, THIRTY))), -1)

    def test_each_wall_and_spot(self):
        for wall in all_walls():
            (a, b), (c, d) = exact_spot(wall[0]), exact_spot(wall[1])
            for one in SPOTS:
                x, y = exact_spot(one)
                value = (c - a) * (y - b) - (d - b) * (x - a)
                self.assert_told(side_of(wall, one), 1 if value > 0 else -1 if value < 0 else 0)


class LyingOn(HelperMixin, unittest.TestCase):
    def test_ends_and_between(self):
        for ends in ((spot(0, 0), spot(4, 2)), (spot(0, 1), spot(4, 1)), (spot(3, 0), spot(3, 4))):
            wall = wall_of(ends[0], ends[1])
            self.assertIs(lies_on(wall, ends[0]), True)
            self.assertIs(lies_on(wall, ends[1]), True)
            self.assertIs(lies_on(wall, between(wall, Fraction(1, 3))), True)

    def test_on_the_line_beside_the_ends(self):
        for ends in ((spot(0, 0), spot(4, 2)), (spot(0, 1), spot(4, 1)), (spot(3, 0), spot(3, 4))):
            wall = wall_of(ends[0], ends[1])
            for part in (Fraction(-1, THIRTY), -1, 1 + Fraction(1, THIRTY), 2):
                self.assertEqual(side_of(wall, between(wall, part)), 0)
                self.assertIs(lies_on(wall, between(wall, part)), False)

    def test_beside_the_line(self):
        wall = wall_of(spot(0, 0), spot(4, 2))
        self.assertIs(lies_on(wall, spot(2, Fraction(3, 2))), False)
        self.assertIs(lies_on(wall, spot(2, Fraction(1, 2))), False)
        upright = wall_of(spot(3, 0), spot(3, 4))
        self.assertIs(lies_on(upright, spot(2, 2)), False)
        self.assertIs(lies_on(upright, spot(4, 2)), False)

    def test_each_wall_and_spot(self):
        for wall in all_walls():
            (a, b), (c, d) = exact_spot(wall[0]), exact_spot(wall[1])
            for one in SPOTS:
                x, y = exact_spot(one)
                in_line = (c - a) * (y - b) == (d - b) * (x - a)
                in_box = min(a, c) <= x <= max(a, c) and min(b, d) <= y <= max(b, d)
                self.assertIs(lies_on(wall, one), in_line and in_box, (wall, one))


class WhatHoldsEverywhere(HelperMixin, unittest.TestCase):
    """Promise 2, as far as it touches spots."""

    def test_of_kinds_under_the_told_ones_the_told_kinds_come(self):
        first, second = spot(0, 1), spot(2, Fraction(5, 3))
        for ends in ((first, second), (second, first)):
            self.assert_told(wall_of(kinds_under(ends[0]), kinds_under(ends[1])), (first, second))
        wall = kinds_under((first, second))
        self.assert_told(side_of(wall, kinds_under(spot(1, 9))), 1)
        self.assert_told(lies_on(wall, kinds_under(first)), True)
        self.assert_told(is_ahead(kinds_under(first), kinds_under(second)), True)

    def test_what_is_refused_changes_nothing(self):
        one = spot(1, Fraction(2, 3))
        self.assert_refused(NoWall, wall_of, one, one)
        self.assertEqual(one, ((1, 1), (2, 3)))
        self.assert_told(wall_of(one, spot(0, 0)), (((0, 1), (0, 1)), ((1, 1), (2, 3))))

    def test_great_numbers_that_were_told(self):
        great = Fraction(10 ** 999 + 1, 3 ** 2000)
        wall = wall_of(spot(great, -great), spot(-great, great))
        self.assert_told(side_of(wall, spot(0, 0)), 0)
        self.assert_told(side_of(wall, spot(0, Fraction(1, 3 ** 2001))), 1)
        self.assertIs(lies_on(wall, spot(great / 2, -great / 2)), True)
        self.assertIs(lies_on(wall, spot(great * 2, -great * 2)), False)


def all_walls():
    return [wall_of(one, other) for at, one in enumerate(SPOTS) for other in SPOTS[:at]]


def between(wall, part):
    """The spot of the wall's line at this part of the way from its first end to its second."""
    (a, b), (c, d) = exact_spot(wall[0]), exact_spot(wall[1])
    return spot(a + part * (c - a), b + part * (d - b))


if __name__ == "__main__":
    unittest.main()
