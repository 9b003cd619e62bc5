"""Promise 14: the wall below a spot, and plain looking."""

import unittest
from fractions import Fraction

from helper import (THIRTY, HelperMixin, Patches, box, exact_spot, exact_wall, height, kinds_under, ladder, line_spots,
                    many_plots, sample_plots, spot, wall, walls_of)
from spotlook.parting import parted
from spotlook.plain import look_plainly, wall_below
from spotlook.plots import corners_of, plot_of
from spotlook.spots import lies_on

HAIR = Fraction(1, THIRTY)


def exact_wall_below(plot, one):
    """Of the walls that span the spot, none of them upright, and are lower: the highest, and of such the steepest."""
    x, y = exact_spot(one)
    found = []
    for number, (first, second) in enumerate(exact_wall(part) for part in plot):
        if first[0] < second[0] and first <= (x, y) < second and height((first, second), x) < y:
            slope = (second[1] - first[1]) / (second[0] - first[0])
            found.append((height((first, second), x), slope, number))
    return max(found)[2] if found else None


class WallBelow(HelperMixin, unittest.TestCase):
    def test_none(self):
        self.assert_told(wall_below((), spot(0, 0)), None)
        plot = plot_of(box(0, 0, 4, 4))
        for one in (spot(2, -1), spot(-1, 2), spot(5, 2), spot(2, 0), spot(0, 0), spot(4, 5), spot(0, -1)):
            self.assert_told(wall_below(plot, one), None)

    def test_the_upper_one_of_several(self):
        plot = plot_of(walls_of([(0, 4, 9, 4), (0, 0, 9, 0), (0, 2, 9, 3), (0, 9, 9, 9)]))
        self.assert_told([wall_below(plot, spot(1, y)) for y in (-1, 1, 3, 5, 10)], [None, 1, 2, 0, 3])

    def test_at_a_spot_on_a_wall_that_wall_is_not_below(self):
        plot = plot_of(walls_of([(0, 4, 9, 4), (0, 0, 9, 0)]))
        self.assert_told(wall_below(plot, spot(3, 4)), 1)
        self.assert_told(wall_below(plot, spot(0, 4)), 1)
        self.assert_told(wall_below(plot, spot(9, 4)), None)
        self.assert_told(wall_below(plot, spot(9, -1)), None)
        self.assert_told(wall_below(plot, spot(3, 4 + HAIR)), 0)

    def test_straight_above_a_corner(self):
        plot = plot_of(walls_of([(0, 0, 3, 0), (3, 0, 6, 1), (3, 0, 6, -1), (3, 0, 6, 0), (-9, -9, 9, -9)]))
        self.assert_told(wall_below(plot, spot(3, 2)), 1)
        self.assert_told(wall_below(plot, spot(3, -2)), 4)
        self.assert_told(wall_below(plot, spot(0, 2)), 0)
        self.assert_told(wall_below(plot, spot(6, 2)), 4)
        # Straight below second ends their walls still span the spot.
        self.assert_told(wall_below(plot, spot(6, Fraction(1, 2))), 4)

    def test_upright_walls_are_below_nothing(self):
        plot = plot_of(walls_of([(3, 0, 3, 5), (-9, -9, 9, -9)]))
        for y in (-1, 0, 2, 5, 6):
            self.assert_told(wall_below(plot, spot(3, y)), 1)

    def test_each_spot_of_many_plots(self):
        for plot in many_plots():
            for one in corners_of(plot) + line_spots(plot):
                self.assert_told(wall_below(plot, one), exact_wall_below(plot, one))


class PlainLooking(HelperMixin, unittest.TestCase):
    def test_plot_of_none(self):
        for one in (spot(0, 0), spot(THIRTY, -HAIR)):
            self.assert_told(look_plainly((), one), ("land", 0))

    def test_of_a_box(self):
        plot = plot_of(box(0, 0, 4, 4))
        self.assert_told(look_plainly(plot, spot(2, 2)), ("land", 1))
        for one in (spot(-1, 2), spot(5, 2), spot(2, -1), spot(2, 5), spot(9, 9)):
            self.assert_told(look_plainly(plot, one), ("land", 0))

    def test_a_spot_that_is_a_corner(self):
        plot = plot_of(box(0, 0, 4, 4))
        told = [look_plainly(plot, one) for one in (spot(0, 0), spot(0, 4), spot(4, 0), spot(4, 4))]
        self.assert_told(told, [("corner", 0), ("corner", 1), ("corner", 2), ("corner", 3)])

    def test_a_spot_that_lies_on_a_wall(self):
        plot = plot_of(box(0, 0, 4, 4))
        told = [look_plainly(plot, one) for one in (spot(2, 0), spot(HAIR, 4), spot(0, 1), spot(4, 4 - HAIR))]
        self.assert_told(told, [("wall", 0), ("wall", 1), ("wall", 2), ("wall", 3)])

    def test_by_a_hair(self):
        plot = plot_of(box(0, 0, 4, 4))
        for one in (spot(HAIR, HAIR), spot(4 - HAIR, 4 - HAIR), spot(HAIR, 2), spot(2, HAIR), spot(4 - HAIR, 2)):
            self.assert_told(look_plainly(plot, one), ("land", 1))
        for one in (spot(-HAIR, 2), spot(4 + HAIR, 2), spot(2, -HAIR), spot(2, 4 + HAIR), spot(0, -HAIR),
                    spot(4, 4 + HAIR)):
            self.assert_told(look_plainly(plot, one), ("land", 0))

    def test_straight_above_and_below_corners(self):
        plot = sample_plots()["free"]
        # Within the land, straight above and below the ends of walls that hang freely.
        for one in (spot(2, 4), spot(2, 2), spot(5, 4), spot(5, 2), spot(3, Fraction(5, 2)), spot(3, HAIR), spot(4, 4),
                    spot(6, 7 + HAIR)):
            self.assert_told(look_plainly(plot, one), ("land", 1))
        for one in (spot(0, 9), spot(0, -1), spot(8, 9), spot(8, -1), spot(2, 9), spot(2, -1)):
            self.assert_told(look_plainly(plot, one), ("land", 0))

    def test_on_the_line_of_a_wall_beside_its_ends(self):
        plot = sample_plots()["free"]
        for one in (spot(1, 3), spot(7, 3), spot(3, 4), spot(7, Fraction(15, 2)), spot(1, 2)):
            self.assert_told(look_plainly(plot, one), ("land", 1))
        for one in (spot(-1, 0), spot(9, 8), spot(-1, 3), spot(10, 11)):
            self.assert_told(look_plainly(plot, one), ("land", 0))

    def test_on_the_line_of_an_upright_wall(self):
        plot = sample_plots()["uprights"]
        self.assert_told(look_plainly(plot, spot(0, Fraction(5, 2))), ("land", 0))
        self.assert_told(look_plainly(plot, spot(0, 6)), ("land", 0))
        self.assert_told(look_plainly(plot, spot(0, -5)), ("land", 0))
        self.assert_told(look_plainly(plot, spot(0, 1)), ("wall", 0))
        self.assert_told(look_plainly(plot, spot(0, 4)), ("wall", 1))
        box_with_uprights = plot_of(box(-9, -9, 9, 9) + list(plot))
        for y in (Fraction(5, 2), 6, -5):
            self.assert_told(look_plainly(box_with_uprights, spot(0, y)), ("land", 1))

    def test_boxes_within_boxes(self):
        plot = sample_plots()["within"]
        self.assert_told([look_plainly(plot, spot(x, 6)) for x in (-1, 1, 3, 7, 9, 11, 13)],
                         [("land", 0), ("land", 1), ("land", 2), ("land", 3), ("land", 2), ("land", 1), ("land", 0)])
        self.assert_told(look_plainly(plot, spot(6, 9)), ("land", 2))
        self.assert_told(look_plainly(plot, spot(5, 11)), ("land", 1))

    def test_forty_walls(self):
        plot = plot_of(ladder())
        half = Fraction(1, 2)
        told = [look_plainly(plot, spot(x + half, half))[1] for x in range(13)]
        self.assertEqual(sorted(told), list(range(1, 14)))
        self.assert_told([look_plainly(plot, spot(x, half)) for x in (0, 13)], [("wall", 0), ("wall", 39)])
        self.assert_told(look_plainly(plot, spot(13 + half, half)), ("land", 0))

    def test_each_spot_of_many_plots(self):
        for plot in many_plots():
            patches = Patches(plot)
            land_of = {patches.number[patch]: look_plainly(plot, patches.within(patch)) for patch in patches.patches}
            corners = corners_of(plot)
            for number, corner in enumerate(corners):
                self.assert_told(look_plainly(plot, corner), ("corner", number))
            for one in line_spots(plot):
                on = [number for number, part in enumerate(plot) if lies_on(part, one)]
                if one in corners:
                    awaited = ("corner", corners.index(one))
                elif on:
                    awaited = ("wall", on[0])
                else:
                    awaited = land_of[patches.number[patches.patch_at(*exact_spot(one))]]
                self.assert_told(look_plainly(plot, one), awaited)


class WhatHoldsEverywhere(HelperMixin, unittest.TestCase):
    """Promise 2, as far as it touches plain looking."""

    def test_of_kinds_under_the_told_ones_the_told_kinds_come(self):
        plot = plot_of(box(0, 0, 4, Fraction(9, 2)))
        for one in (spot(2, 2), spot(0, 0), spot(2, 0), spot(2, Fraction(9, 2)), spot(9, 9)):
            self.assert_told(look_plainly(kinds_under(plot), kinds_under(one)), look_plainly(plot, one))
            self.assert_told(wall_below(kinds_under(plot), kinds_under(one)), wall_below(plot, one))

    def test_great_numbers_that_were_told(self):
        walls = [wall(-THIRTY, Fraction(1, THIRTY - 2), THIRTY, Fraction(THIRTY, 7)), wall(0, -THIRTY, 1, THIRTY),
                 wall(-3, Fraction(THIRTY * 7, 8), Fraction(10 ** 29, 3), -1)]
        plot = parted(walls)
        corners = corners_of(plot)
        for number, corner in enumerate(corners):
            self.assert_told(look_plainly(plot, corner), ("corner", number))
            x, y = exact_spot(corner)
            above = look_plainly(plot, spot(x, y + HAIR ** 9))
            self.assertEqual(above[0], "land")
            self.assert_told(wall_below(plot, spot(x, y + HAIR ** 9)), exact_wall_below(plot, spot(x, y + HAIR ** 9)))


if __name__ == "__main__":
    unittest.main()
