"""Promise 13: lands, their rings, and the land of each face. And of promise 3: lands are what walls part."""

import unittest
from fractions import Fraction
from random import Random

from helper import (THIRTY, HelperMixin, Patches, as_exact, as_pair, box, kinds_under, ladder, left_of, many_plots,
                    sample_plots, spot, walls_of)
from spotlook.lands import lands_of, lands_of_faces
from spotlook.parting import parted
from spotlook.plain import look_plainly
from spotlook.plots import plot_of
from spotlook.rings import ring_area, rings_of
from spotlook.spots import wall_of


def rings_within(land):
    """All rings of a land."""
    outer, inners = land
    return inners if outer is None else [outer] + inners


class Lands(HelperMixin, unittest.TestCase):
    def test_of_the_plot_of_none(self):
        self.assert_told(lands_of(()), [(None, [])])
        self.assert_told(lands_of_faces(()), [])

    def test_where_nothing_is_shut_in(self):
        plot = plot_of(walls_of([(0, 0, 3, 1)]))
        self.assert_told(lands_of(plot), [(None, [[0, 1]])])
        self.assert_told(lands_of_faces(plot), [0, 0])
        plot = plot_of(walls_of([(0, 0, 2, 0), (5, 5, 5, 6), (2, 0, 3, 4)]))
        self.assert_told(lands_of(plot), [(None, [[0, 4, 5, 1], [2, 3]])])
        self.assert_told(lands_of_faces(plot), [0] * 6)

    def test_of_a_box(self):
        plot = plot_of(box(0, 0, 4, 4))
        self.assert_told(lands_of(plot), [(None, [[1, 4, 2, 7]]), ([0, 6, 3, 5], [])])
        self.assert_told(lands_of_faces(plot), [1, 0, 0, 1, 0, 1, 1, 0])

    def test_box_within_a_box(self):
        outer, inner = ([0, 6, 3, 5], [1, 4, 2, 7])
        self.assert_told(lands_of(plot_of(box(0, 0, 9, 9) + box(2, 2, 4, 4))),
                         [(None, [inner]), (outer, [[9, 12, 10, 15]]), ([8, 14, 11, 13], [])])
        # The inner box told first has the first number.
        self.assert_told(lands_of(plot_of(box(2, 2, 4, 4) + box(0, 0, 9, 9))),
                         [(None, [[9, 12, 10, 15]]), (outer, []), ([8, 14, 11, 13], [inner])])

    def test_box_beside_a_box(self):
        for second in (box(6, 0, 8, 4), box(0, 6, 4, 9), box(2, -9, 3, -5), box(-9, 1, -3, 2)):
            self.assert_told(lands_of(plot_of(box(0, 0, 4, 4) + second)),
                             [(None, [[1, 4, 2, 7], [9, 12, 10, 15]]), ([0, 6, 3, 5], []), ([8, 14, 11, 13], [])])

    def test_boxes_with_a_common_wall(self):
        plot = sample_plots()["common wall"]
        self.assert_told(lands_of(plot), [(None, [[1, 4, 2, 10, 13, 9]]), ([0, 6, 3, 5], []), ([7, 8, 12, 11], [])])
        self.assert_told(lands_of_faces(plot), [1, 0, 0, 1, 0, 1, 1, 2, 2, 0, 0, 2, 2, 0])

    def test_boxes_with_a_common_corner(self):
        plot = sample_plots()["common corner"]
        self.assert_told(lands_of(plot), [(None, [[1, 4, 2, 12, 10, 15, 9, 7]]), ([0, 6, 3, 5], []),
                                          ([8, 14, 11, 13], [])])

    def test_a_box_within_a_box_that_hangs_at_its_corner(self):
        plot = sample_plots()["corner within"]
        self.assertEqual([len(inners) for outer, inners in lands_of(plot)], [1, 0, 0])
        self.assertEqual(sorted(len(outer) for outer, inners in lands_of(plot)[1:]), [3, 7])

    def test_walls_that_hang_freely_in_a_land(self):
        plot = sample_plots()["free"]
        self.assert_told(lands_of(plot), [(None, [[1, 4, 2, 7]]), ([0, 6, 3, 5], [[8, 9], [10, 11], [12, 13]])])

    def test_walls_above_a_box(self):
        # The wall below each is the upper one of the box, or a wall that hangs freely itself.
        plot = sample_plots()["above a box"]
        self.assert_told(lands_of(plot), [(None, [[1, 4, 2, 7], [8, 9], [10, 11], [12, 13]]), ([0, 6, 3, 5], [])])

    def test_walls_at_a_corner_of_a_box(self):
        plot = sample_plots()["at a corner"]
        self.assert_told(lands_of_faces(plot), [1, 0, 0, 1, 0, 1, 1, 0, 0, 0, 1, 1, 0, 0])
        self.assertEqual([len(inners) for outer, inners in lands_of(plot)], [1, 0])

    def test_inner_rings_stand_by_their_first_faces(self):
        # The one that is told first lies behind the others, and each has the next one below it.
        walls = walls_of([(6, 7, 7, 7), (4, 6, 7, 6), (2, 5, 8, 5)]) + box(0, 0, 9, 9)
        self.assert_told(lands_of(plot_of(walls)),
                         [(None, [[7, 10, 8, 13]]), ([6, 12, 9, 11], [[0, 1], [2, 3], [4, 5]])])

    def test_corner_straight_above_a_corner(self):
        # A wall that hangs freely begins straight above or below corners of a box; then all this within another box.
        for row in ((0, 5, 9, 5), (4, 5, 9, 5), (0, -1, 9, -1), (4, -1, 9, -1)):
            walls = box(0, 0, 4, 4) + walls_of([row])
            self.assert_told(lands_of_faces(plot_of(walls))[8:], [0, 0])
            self.assert_told(lands_of_faces(plot_of(walls + box(-2, -2, 10, 10)))[8:10], [2, 2])

    def test_corner_on_the_line_of_a_wall_beside_its_ends(self):
        plot = plot_of(walls_of([(0, 0, 1, 1), (0, 0, 1, 0), (1, 0, 1, 1), (2, 2, 3, 3), (1, 2, 1, 3)]))
        self.assert_told(lands_of_faces(plot)[6:], [0, 0, 0, 0])

    def test_forty_walls(self):
        plot = plot_of(ladder())
        lands = lands_of(plot)
        self.assertEqual(len(lands), 14)
        self.assertEqual([len(rings_within(land)) for land in lands], [1] * 14)
        nested = plot_of([one for k in range(10) for one in box(k, k, 30 - k, 30 - k)])
        self.assertEqual([len(rings_within(land)) for land in lands_of(nested)], [1] + [2] * 9 + [1])
        self.assert_told(lands_of_faces(nested)[::8], list(range(1, 11)))


class Promised(HelperMixin, unittest.TestCase):
    """What holds of every plot."""

    def test_rings_of_lands_are_the_rings_of_the_plot(self):
        for plot in many_plots():
            lands = lands_of(plot)
            rings = rings_of(plot)
            self.assertEqual(sorted(ring for land in lands for ring in rings_within(land)), rings)
            self.assertEqual([outer for outer, inners in lands],
                             [None] + [ring for ring in rings if ring_area(plot, ring)[0] > 0])
            for outer, inners in lands:
                self.assertEqual(inners, sorted(inners))
                self.assertIs(type(inners), list)

    def test_each_face_is_of_the_land_one_of_whose_rings_has_it(self):
        for plot in many_plots():
            faces = lands_of_faces(plot)
            self.assertEqual(len(faces), 2 * len(plot))
            for number, land in enumerate(lands_of(plot)):
                for ring in rings_within(land):
                    self.assert_told([faces[face] for face in ring], [number] * len(ring))

    def test_lands_are_what_can_be_joined_without_going_through_a_wall(self):
        for plot in many_plots():
            patches = Patches(plot)
            faces = lands_of_faces(plot)
            told = {(patches.number[patch], look_plainly(plot, patches.within(patch))) for patch in patches.patches}
            land_of = dict(told)
            # Where two lands had one joined number, or two joined numbers one land, one of these would be wrong.
            self.assertEqual(len(told), len(land_of))
            self.assertEqual(sorted(land_of.values()), [("land", k) for k in range(len(lands_of(plot)))])
            self.assertEqual(land_of[0], ("land", 0))
            for face, land in enumerate(faces):
                self.assertEqual(land_of[patches.number[patches.patch_at(*left_of(plot, face))]], ("land", land))

    def test_areas(self):
        for plot in many_plots():
            patches = Patches(plot)
            told = [sum((as_exact(ring_area(plot, ring)) for ring in rings_within(land)), Fraction(0))
                    for land in lands_of(plot)]
            self.assertEqual(sorted(as_pair(area) for area in told[1:]),
                             sorted(as_pair(area) for area in patches.areas().values()))
            self.assertEqual(told[0], -sum(told[1:]))

    def test_in_any_order_the_lands_are_the_same_spots(self):
        for seed, plot in enumerate(many_plots()):
            patches = Patches(plot)
            spots = [patches.within(patch) for patch in patches.patches]
            before = [look_plainly(plot, one) for one in spots]
            walls = list(plot)
            Random(seed).shuffle(walls)
            shuffled = plot_of(walls)
            after = [look_plainly(shuffled, one) for one in spots]
            self.assertEqual(len(set(zip(before, after))), len(set(before)))
            self.assertEqual(len(set(before)), len(set(after)))


class WhatHoldsEverywhere(HelperMixin, unittest.TestCase):
    """Promise 2, as far as it touches lands."""

    def test_of_kinds_under_the_told_ones_the_told_kinds_come(self):
        plot = sample_plots()["free"]
        self.assert_told(lands_of(kinds_under(plot)), lands_of(plot))
        self.assert_told(lands_of_faces(kinds_under(plot)), lands_of_faces(plot))

    def test_lands_are_the_askers_own(self):
        plot = sample_plots()["free"]
        self.assert_own(lambda: lands_of(plot), lambda told: told[1][1][0].append(7))
        self.assert_own(lambda: lands_of(plot), lambda told: told[1][0].reverse())
        self.assert_own(lambda: lands_of(plot), lambda told: told[0][1].clear())
        self.assert_own(lambda: lands_of(plot), lambda told: told.pop())
        self.assert_own(lambda: lands_of_faces(plot), lambda told: told.reverse())

    def test_great_numbers_that_were_told(self):
        walls = walls_of([(-THIRTY, Fraction(1, THIRTY - 2), THIRTY, Fraction(THIRTY, 7)), (0, -THIRTY, 1, THIRTY),
                          (-3, Fraction(THIRTY * 7, 8), Fraction(10 ** 29, 3), -1)])
        plot = parted(walls)
        self.assertEqual(len(lands_of(plot)), 2)
        faces = lands_of_faces(plot)
        inner = [face for face in range(len(faces)) if faces[face] == 1]
        self.assertEqual(len(inner), 3)
        # A wall that hangs freely within the land, and one outside.
        near, nearer = Fraction(1, 10 ** 120), Fraction(1, 10 ** 150)
        for face, land in ((inner[0], 1), (inner[1], 1), (inner[2] ^ 1, 0)):
            free = wall_of(spot(*left_of(plot, face, near)), spot(*left_of(plot, face, nearer)))
            self.assertEqual(lands_of_faces(plot_of(list(plot) + [free])), faces + [land, land])


if __name__ == "__main__":
    unittest.main()
