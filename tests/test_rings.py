"""Promises 11 and 12: faces, what comes behind a face, rings, and their areas."""

import unittest
from fractions import Fraction
from math import atan2, pi

from helper import (THIRTY, HelperMixin, as_exact, as_pair, box, exact_spot, kinds_under, ladder, many_plots,
                    sample_plots, spot, wall_of, walls_of)
from spotlook.parting import parted
from spotlook.plots import corners_of, plot_of
from spotlook.rings import behind, ring_area, rings_of


def ends_of_face(plot, face):
    first, second = plot[face // 2]
    return (second, first) if face % 2 else (first, second)


def angle(start, end):
    (a, b), (c, d) = exact_spot(start), exact_spot(end)
    return atan2(d - b, c - a)


def exact_behind(plot, face):
    """The face behind, by angles; right where no two walls at a corner go almost the same way."""
    came_from, corner = ends_of_face(plot, face)

    def turned(other):
        return (angle(corner, came_from) - angle(corner, ends_of_face(plot, other)[1])) % (2 * pi)

    rivals = [other for other in range(2 * len(plot)) if ends_of_face(plot, other)[0] == corner and other != face ^ 1]
    return min(rivals, key=turned, default=face ^ 1)


def exact_area(plot, ring):
    total = Fraction(0)
    for face in ring:
        (x, y), (next_x, next_y) = (exact_spot(end) for end in ends_of_face(plot, face))
        total += x * next_y - next_x * y
    return total / 2


class Behind(HelperMixin, unittest.TestCase):
    def test_corner_of_one_wall(self):
        for plot in (plot_of(walls_of([(0, 0, 3, 1)])), plot_of(walls_of([(0, 0, 0, 1)]))):
            self.assert_told(behind(plot, 0), 1)
            self.assert_told(behind(plot, 1), 0)

    def test_corner_of_two(self):
        plot = plot_of(walls_of([(0, 0, 2, 0), (2, 0, 3, 4)]))
        self.assert_told([behind(plot, face) for face in range(4)], [2, 0, 3, 1])
        # A corner that is the second end of both, and one that is the first end of both.
        plot = plot_of(walls_of([(0, 0, 2, 0), (1, 3, 2, 0)]))
        self.assert_told([behind(plot, face) for face in range(4)], [3, 0, 1, 2])
        plot = plot_of(walls_of([(0, 0, 2, 0), (0, 0, 1, 3)]))
        self.assert_told([behind(plot, face) for face in range(4)], [1, 2, 3, 0])

    def test_corner_of_two_walls_on_one_line(self):
        for rows in ([(0, 0, 2, 1), (2, 1, 4, 2)], [(0, 0, 0, 1), (0, 1, 0, 5)], [(0, 0, 1, 0), (1, 0, 5, 0)]):
            plot = plot_of(walls_of(rows))
            self.assert_told([behind(plot, face) for face in range(4)], [2, 0, 3, 1])

    def test_corner_of_many(self):
        # Eight walls about one corner, told from the right on to the left: behind each comes the next to its right.
        ends = [(2, 0), (2, 2), (0, 2), (-2, 2), (-2, 0), (-2, -2), (0, -2), (2, -2)]
        plot = plot_of(walls_of([(0, 0, x, y) for x, y in ends]))
        for at, (x, y) in enumerate(ends):
            leads_out = 2 * at if (x, y) > (0, 0) else 2 * at + 1
            right = (at - 1) % 8
            right_leads_out = 2 * right if ends[right] > (0, 0) else 2 * right + 1
            self.assert_told(behind(plot, leads_out ^ 1), right_leads_out)
            self.assert_told(behind(plot, leads_out), leads_out ^ 1)

    def test_the_first_to_the_right_and_not_any_one(self):
        # One comes from below; there are walls at the left, straight ahead and at the right.
        rows = [(0, -2, 0, 0), (-2, 0, 0, 0), (0, 0, 0, 2), (0, 0, 2, 0), (0, 0, -1, -2)]
        self.assert_told(behind(plot_of(walls_of(rows)), 0), 9)
        self.assert_told(behind(plot_of(walls_of(rows[:4])), 0), 3)
        self.assert_told(behind(plot_of(walls_of(rows[:1] + rows[2:4])), 0), 2)
        self.assert_told(behind(plot_of(walls_of(rows[:1] + rows[3:4])), 0), 2)

    def test_each_face_of_many_plots(self):
        for plot in many_plots():
            for face in range(2 * len(plot)):
                self.assert_told(behind(plot, face), exact_behind(plot, face))

    def test_by_a_hair(self):
        hair = Fraction(1, THIRTY)
        plot = plot_of(walls_of([(-2, 0, 0, 0), (0, 0, 1, hair), (0, 0, 1, -hair), (0, 0, 1, 0), (0, 0, -1, -hair)]))
        self.assert_told(behind(plot, 0), 2)
        self.assert_told(behind(plot, 3), 6)
        self.assert_told(behind(plot, 7), 4)
        self.assert_told(behind(plot, 5), 9)
        self.assert_told(behind(plot, 8), 1)


class Rings(HelperMixin, unittest.TestCase):
    def test_of_the_plot_of_none(self):
        self.assert_told(rings_of(()), [])

    def test_of_one_wall(self):
        self.assert_told(rings_of(plot_of(walls_of([(0, 0, 3, 1)]))), [[0, 1]])

    def test_of_a_box(self):
        # Below, above, left, right: to the left round the land within, to the right round it from outside.
        self.assert_told(rings_of(plot_of(box(0, 0, 4, 4))), [[0, 6, 3, 5], [1, 4, 2, 7]])

    def test_of_walls_that_hang_together_and_shut_nothing_in(self):
        plot = plot_of(walls_of([(0, 0, 2, 0), (2, 0, 3, 4), (2, 0, 4, -1)]))
        self.assert_told(rings_of(plot), [[0, 2, 3, 4, 5, 1]])

    def test_of_walls_that_dont_hang_together(self):
        plot = plot_of(walls_of([(0, 0, 1, 0), (5, 5, 6, 6), (1, 0, 2, 0), (0, 3, 0, 4)]))
        self.assert_told(rings_of(plot), [[0, 4, 5, 1], [2, 3], [6, 7]])
        plot = plot_of(box(0, 0, 9, 9) + box(2, 2, 4, 4))
        self.assert_told(rings_of(plot), [[0, 6, 3, 5], [1, 4, 2, 7], [8, 14, 11, 13], [9, 12, 10, 15]])

    def test_of_two_boxes_with_a_common_wall(self):
        self.assert_told(rings_of(sample_plots()["common wall"]), [[0, 6, 3, 5], [1, 4, 2, 10, 13, 9], [7, 8, 12, 11]])

    def test_of_many_plots(self):
        for plot in many_plots():
            rings = rings_of(plot)
            self.assert_told(sorted(face for ring in rings for face in ring), list(range(2 * len(plot))))
            self.assertEqual([ring[0] for ring in rings], sorted(ring[0] for ring in rings))
            for ring in rings:
                self.assertEqual(ring[0], min(ring))
                for at, face in enumerate(ring):
                    self.assertEqual(ring[at], exact_behind(plot, ring[at - 1]))


class Areas(HelperMixin, unittest.TestCase):
    def test_of_a_box(self):
        plot = plot_of(box(1, 2, 4, 7))
        self.assert_told([ring_area(plot, ring) for ring in rings_of(plot)], [(15, 1), (-15, 1)])

    def test_of_a_triangle(self):
        plot = plot_of(walls_of([(0, 0, 1, 0), (0, 0, 0, Fraction(1, 3)), (0, Fraction(1, 3), 1, 0)]))
        self.assert_told([ring_area(plot, ring) for ring in rings_of(plot)], [(1, 6), (-1, 6)])

    def test_0_where_nothing_is_shut_in(self):
        for rows in ([(0, 0, 3, 1)], [(2, 0, 2, 5)], [(0, 0, 2, 0), (2, 0, 3, 4), (2, 0, 4, -1)]):
            plot = plot_of(walls_of(rows))
            self.assert_told([ring_area(plot, ring) for ring in rings_of(plot)], [(0, 1)])

    def test_with_walls_that_hang_in_the_land(self):
        plot = sample_plots()["at a corner"]
        self.assert_told([ring_area(plot, ring) for ring in rings_of(plot)], [(16, 1), (-16, 1)])

    def test_with_a_corner_gone_over_twice(self):
        plot = sample_plots()["common corner"]
        self.assert_told(sorted(ring_area(plot, ring) for ring in rings_of(plot)), [(-8, 1), (4, 1), (4, 1)])

    def test_of_a_ladder(self):
        plot = plot_of(ladder())
        areas = [ring_area(plot, ring) for ring in rings_of(plot)]
        self.assert_told(sorted(areas), [(-13, 1)] + [(1, 1)] * 13)

    def test_begun_with_any_face(self):
        plot = plot_of(box(1, 2, 4, 7))
        for ring in rings_of(plot):
            for at in range(4):
                self.assert_told(ring_area(plot, ring[at:] + ring[:at]), ring_area(plot, ring))

    def test_of_many_plots(self):
        for plot in many_plots():
            rings = rings_of(plot)
            for ring in rings:
                self.assert_told(ring_area(plot, ring), as_pair(exact_area(plot, ring)))
            # Each face is gone along once in each of both directions, so all comes to 0.
            self.assertEqual(sum(as_exact(ring_area(plot, ring)) for ring in rings), 0)

    def test_of_forty_walls_with_great_numbers(self):
        spots = [spot(Fraction(k * (40 - k) * THIRTY + k, THIRTY - 2 * k), k + Fraction(k, 10 ** 29 + k))
                 for k in range(40)]
        plot = plot_of([wall_of(spots[k], spots[k - 1]) for k in range(40)])
        for ring in rings_of(plot):
            area = ring_area(plot, ring)
            self.assert_told(area, as_pair(exact_area(plot, ring)))
            self.assertGreater(len(str(area[1])), 1000)


class WhatHoldsEverywhere(HelperMixin, unittest.TestCase):
    """Promise 2, as far as it touches rings."""

    def test_of_kinds_under_the_told_ones_the_told_kinds_come(self):
        plot = plot_of(box(0, 0, 3, Fraction(4, 3)) + walls_of([(7, 7, 8, 8)]))
        under = kinds_under(plot)
        self.assert_told(rings_of(under), rings_of(plot))
        for face in range(10):
            self.assert_told(behind(under, kinds_under(face)), behind(plot, face))
        for ring in rings_of(plot):
            self.assert_told(ring_area(under, kinds_under(ring)), ring_area(plot, ring))

    def test_rings_are_the_askers_own(self):
        plot = plot_of(box(0, 0, 4, 4))
        self.assert_own(lambda: rings_of(plot), lambda told: told[1].reverse())
        self.assert_own(lambda: rings_of(plot), lambda told: told.pop())

    def test_nothing_that_is_handed_in_is_changed(self):
        plot = plot_of(box(0, 0, 4, 4))
        ring = rings_of(plot)[0]
        ring_area(plot, ring)
        self.assertEqual(ring, [0, 6, 3, 5])

    def test_great_numbers_that_were_told(self):
        walls = walls_of([(-THIRTY, Fraction(1, THIRTY - 2), THIRTY, Fraction(THIRTY, 7)), (0, -THIRTY, 1, THIRTY),
                          (-3, Fraction(THIRTY * 7, 8), Fraction(10 ** 29, 3), -1)])
        plot = parted(walls)
        self.assertGreater(len(str(max(corner[0][1] for corner in corners_of(plot)))), 60)
        rings = rings_of(plot)
        self.assertEqual(len(rings), 2)
        for ring in rings:
            self.assert_told(ring_area(plot, ring), as_pair(exact_area(plot, ring)))
        self.assertEqual(sorted(as_exact(ring_area(plot, ring)) > 0 for ring in rings), [False, True])


if __name__ == "__main__":
    unittest.main()
