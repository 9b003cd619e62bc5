"""Promise 9: walls that meet in any way are parted. And of promise 3: the plot covers the same spots."""

import unittest
from fractions import Fraction
from random import Random

from helper import (THIRTY, HelperMixin, box, exact_meeting, exact_wall, kinds_under, random_walls, spot, wall,
                    walls_of)
from spotlook.errors import TooMany
from spotlook.parting import parted
from spotlook.plots import corners_of, plot_of
from spotlook.spots import lies_on, wall_of


def exact_pieces(walls):
    """The pieces of the walls, in their order, found by Python's own fractions."""
    pieces = set()
    for one in walls:
        cuts = {end for other in walls for end in exact_wall(other) if lies_on(one, spot(*end))}
        for other in walls:
            met = exact_meeting(one, other)
            if met is not None and met[0] == "spot":
                cuts.add(exact_wall((met[1], met[1]))[0])
        row = sorted(cuts)
        pieces.update(zip(row, row[1:]))
    return tuple((spot(*start), spot(*end)) for start, end in sorted(pieces))


class Parted(HelperMixin, unittest.TestCase):
    def test_none(self):
        self.assert_told(parted([]), ())

    def test_one(self):
        self.assert_told(parted([wall(3, 1, 0, 0)]), (wall(0, 0, 3, 1),))

    def test_a_plot_has_its_own_walls_in_the_order_of_ends(self):
        self.assert_told(parted(box(0, 0, 4, 2)),
                         tuple(walls_of([(0, 0, 0, 2), (0, 0, 4, 0), (0, 2, 4, 2), (4, 0, 4, 2)])))

    def test_two_that_cross(self):
        awaited = tuple(walls_of([(0, 0, 2, 2), (0, 4, 2, 2), (2, 2, 4, 0), (2, 2, 4, 4)]))
        for walls in (walls_of([(0, 0, 4, 4), (0, 4, 4, 0)]), walls_of([(0, 4, 4, 0), (0, 0, 4, 4)])):
            self.assert_told(parted(walls), awaited)

    def test_one_that_touches_another(self):
        self.assert_told(parted(walls_of([(0, 0, 4, 4), (1, 1, 5, 0)])),
                         tuple(walls_of([(0, 0, 1, 1), (1, 1, 4, 4), (1, 1, 5, 0)])))
        self.assert_told(parted(walls_of([(0, 0, 0, 4), (0, 1, -3, 1)])),
                         tuple(walls_of([(-3, 1, 0, 1), (0, 0, 0, 1), (0, 1, 0, 4)])))

    def test_common_ends_cut_nothing(self):
        walls = walls_of([(0, 0, 1, 3), (0, 0, 2, 0), (1, 3, 2, 0), (2, 0, 4, 0)])
        self.assert_told(parted(walls), tuple(walls))

    def test_the_same_wall_more_than_once(self):
        self.assert_told(parted([wall(0, 0, 3, 1)] * 24), (wall(0, 0, 3, 1),))
        self.assert_told(parted(walls_of([(0, 0, 2, 0), (1, -1, 1, 1), (0, 0, 2, 0)])),
                         tuple(walls_of([(0, 0, 1, 0), (1, -1, 1, 0), (1, 0, 1, 1), (1, 0, 2, 0)])))

    def test_over_one_another(self):
        self.assert_told(parted(walls_of([(0, 0, 2, 4), (1, 2, 3, 6)])),
                         tuple(walls_of([(0, 0, 1, 2), (1, 2, 2, 4), (2, 4, 3, 6)])))
        self.assert_told(parted(walls_of([(0, 0, 0, 9), (0, 3, 0, 4)])),
                         tuple(walls_of([(0, 0, 0, 3), (0, 3, 0, 4), (0, 4, 0, 9)])))
        self.assert_told(parted(walls_of([(2, 1, 9, 1), (0, 1, 5, 1), (0, 1, 9, 1), (7, 1, 8, 1)])),
                         tuple(walls_of([(0, 1, 2, 1), (2, 1, 5, 1), (5, 1, 7, 1), (7, 1, 8, 1), (8, 1, 9, 1)])))

    def test_three_through_one_spot(self):
        told = parted(walls_of([(0, 0, 2, 2), (0, 2, 2, 0), (1, 0, 1, 2)]))
        self.assert_told(told, tuple(walls_of([(0, 0, 1, 1), (0, 2, 1, 1), (1, 0, 1, 1), (1, 1, 1, 2), (1, 1, 2, 0),
                                               (1, 1, 2, 2)])))

    def test_by_first_ends_and_then_by_second_ends(self):
        walls = walls_of([(0, 0, 3, 0), (0, 0, 1, -5), (0, 0, 0, 1), (0, 0, 1, 5), (-1, 9, 9, 9)])
        self.assert_told(parted(walls),
                         tuple(walls_of([(-1, 9, 9, 9), (0, 0, 0, 1), (0, 0, 1, -5), (0, 0, 1, 5), (0, 0, 3, 0)])))

    def test_a_grid_of_up_to_forty_pieces(self):
        for many, pieces in ((2, 12), (3, 24), (4, 40)):
            walls = walls_of([(0, k, many + 1, k) for k in range(1, many + 1)] +
                             [(k, 0, k, many + 1) for k in range(1, many + 1)])
            self.assertEqual(len(parted(walls)), pieces)
            self.assert_told(parted(walls), exact_pieces(walls))

    def test_twenty_four(self):
        walls = walls_of([(0, 2 * k, 5, 2 * k) for k in range(20)] +
                         [(6 + k, 0, 6 + k, 9) for k in range(2)] + [(5, 1, 9, 1), (5, 3, 9, 3)])
        self.assertEqual(len(walls), 24)
        self.assert_told(parted(walls), exact_pieces(walls))
        self.assertEqual(len(parted(walls)), 32)

    def test_in_whatever_order_they_are_told(self):
        walls = random_walls(Random(3), 7, range(5))
        awaited = exact_pieces(walls)
        for seed in range(6):
            Random(seed).shuffle(walls)
            self.assert_told(parted(walls), awaited)

    def test_many_lists(self):
        done = 0
        for seed in range(120):
            walls = random_walls(Random(seed), 1 + seed % 12, range(5) if seed % 2 else [0, 1, Fraction(7, 3), 3, 9])
            pieces = exact_pieces(walls)
            if len(pieces) <= 40:
                done += 1
                self.assert_told(parted(walls), pieces)
        self.assertGreater(done, 70)


class TheSameSpots(HelperMixin, unittest.TestCase):
    """Promise 3: walls that cross are parted into a plot that covers the same spots."""

    def test_covered(self):
        for seed in range(30):
            walls = random_walls(Random(seed), 1 + seed % 7, range(5))
            plot = parted(walls)
            self.assert_told(plot_of(list(plot)), plot)
            corners = corners_of(plot)
            middles = [middle(one, other) for at, one in enumerate(corners) for other in corners[:at]]
            for one in corners + middles + [spot(x, Fraction(y, 2)) for x in range(5) for y in range(9)]:
                self.assertEqual(any(lies_on(part, one) for part in plot), any(lies_on(part, one) for part in walls))


class Refused(HelperMixin, unittest.TestCase):
    def test_more_than_forty_pieces(self):
        # Of n walls, each of which crosses each other one, come n * n pieces.
        for many in (7, 10, 24):
            walls = walls_of([(0, k, 100, -k * k) for k in range(many)])
            self.assertEqual(len(exact_pieces(walls)), many * many)
            self.assert_told(self.assert_refused(TooMany, parted, walls).count, many * many)

    def test_forty_one_and_forty(self):
        # Five upright walls through three level ones, and some walls apart.
        walls = walls_of([(0, k, 9, k) for k in range(1, 4)] + [(k, 0, k, 9) for k in range(1, 6)])
        self.assertEqual(len(parted(walls)), 38)
        apart = walls_of([(20, k, 21, k) for k in range(3)])
        self.assertEqual(len(parted(walls + apart[:2])), 40)
        self.assert_told(self.assert_refused(TooMany, parted, walls + apart).count, 41)

    def test_each_piece_is_counted_once(self):
        walls = walls_of([(0, k, 9, k) for k in range(1, 5)] + [(k, 0, k, 9) for k in range(1, 6)])
        for told in (walls, walls + walls, walls + walls_of([(0, 1, 5, 1)])):
            self.assert_told(self.assert_refused(TooMany, parted, told).count, 49)

    def test_more_than_forty_handed_in(self):
        """Not how many are handed in counts, but how many the plot would have."""
        apart = walls_of([(0, k, 1, k) for k in range(41)])
        self.assert_told(self.assert_refused(TooMany, parted, apart).count, 41)
        self.assertEqual(len(parted(apart[:40])), 40)
        self.assert_told(parted([wall(0, 0, 3, 1)] * 41), (wall(0, 0, 3, 1),))
        self.assert_told(parted(box(0, 0, 4, 2) * 12), parted(box(0, 0, 4, 2)))


class WhatHoldsEverywhere(HelperMixin, unittest.TestCase):
    """Promise 2, as far as it touches parting."""

    def test_of_kinds_under_the_told_ones_the_told_kinds_come(self):
        walls = walls_of([(0, 0, 4, 4), (0, 4, 4, 0), (1, 1, 5, 0), (0, 0, 2, 2), (7, 0, 8, Fraction(1, 2))])
        self.assert_told(parted(kinds_under(walls)), exact_pieces(walls))

    def test_nothing_that_is_handed_in_is_changed(self):
        for walls in (walls_of([(0, 4, 4, 0), (0, 0, 4, 4)]), walls_of([(0, k, 1, k) for k in range(41)])):
            before = list(walls)
            try:
                parted(walls)
            except TooMany:
                pass
            self.assertEqual(walls, before)

    def test_numbers_of_thirty_figures_and_such_as_were_told(self):
        walls = walls_of([(-THIRTY, Fraction(1, THIRTY - 2), THIRTY, Fraction(THIRTY, 7)), (0, -THIRTY, 1, THIRTY),
                          (-3, Fraction(THIRTY * 7, 8), Fraction(10 ** 29, 3), -1)])
        told = parted(walls)
        self.assert_told(told, exact_pieces(walls))
        self.assertEqual(len(told), 9)
        self.assert_told(parted(list(told)), told)
        corners = corners_of(told)
        more = list(told) + [wall_of(corners[2], corners[-3]), wall_of(corners[1], spot(5, Fraction(1, 3)))]
        self.assert_told(parted(more), exact_pieces(more))


def middle(one, other):
    (a, b), (c, d) = exact_wall((one, other))
    return spot((a + c) / 2, (b + d) / 2)


if __name__ == "__main__":
    unittest.main()
