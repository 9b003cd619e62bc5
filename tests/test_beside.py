"""Promises 26 and 27: lands beside one another, walls within one land, areas.

And of promise 3: two lands are beside one another just where a wall has a face in each, and the areas of all lands but
the open one come to the area shut in from outside.
"""

import unittest
from fractions import Fraction

from helper import (THIRTY, HelperMixin, Patches, as_exact, as_pair, box, kinds_under, ladder, left_of, many_plots,
                    sample_plots, spot, walls_of)
from spotlook.beside import area_shut_in, land_area, neighbours, within
from spotlook.errors import Absent
from spotlook.lands import lands_of
from spotlook.parting import parted
from spotlook.plain import look_plainly
from spotlook.plots import plot_of


class Neighbours(HelperMixin, unittest.TestCase):
    def test_of_the_plot_of_none(self):
        self.assert_told((neighbours(()), within(())), ([], []))

    def test_where_nothing_is_shut_in(self):
        for name in ("one", "upright", "uprights", "star", "open"):
            plot = sample_plots()[name]
            self.assert_told((neighbours(plot), within(plot)), ([], list(range(len(plot)))))

    def test_of_a_box(self):
        plot = plot_of(box(0, 0, 4, 4))
        self.assert_told((neighbours(plot), within(plot)), ([(0, 1, [0, 1, 2, 3])], []))

    def test_boxes_with_a_common_wall(self):
        plot = sample_plots()["common wall"]
        self.assert_told(neighbours(plot), [(0, 1, [0, 1, 2]), (0, 2, [4, 5, 6]), (1, 2, [3])])
        self.assert_told(within(plot), [])

    def test_boxes_with_a_common_corner_are_not_beside_one_another(self):
        plot = sample_plots()["common corner"]
        self.assert_told(neighbours(plot), [(0, 1, [0, 1, 2, 3]), (0, 2, [4, 5, 6, 7])])

    def test_boxes_within_boxes(self):
        plot = sample_plots()["within"]
        self.assert_told(neighbours(plot), [(0, 1, [0, 1, 2, 3]), (1, 2, [4, 5, 6, 7]), (2, 3, [8, 9, 10, 11])])
        self.assert_told(within(plot), [12])
        # The inner one told first: the open land is beside the second one.
        plot = plot_of(box(2, 2, 4, 4) + box(0, 0, 9, 9))
        self.assert_told(neighbours(plot), [(0, 2, [4, 5, 6, 7]), (1, 2, [0, 1, 2, 3])])

    def test_walls_both_faces_of_which_are_of_one_land(self):
        hanging = walls_of([(5, 5, 6, 6), (0, 0, 1, 2), (9, 9, 12, 9), (20, 0, 21, 0)])
        plot = plot_of(hanging[:1] + box(0, 0, 9, 9) + hanging[1:])
        self.assert_told((neighbours(plot), within(plot)), ([(0, 1, [1, 2, 3, 4])], [0, 5, 6, 7]))

    def test_two_walls_between_the_same_lands_apart_from_each_other(self):
        # A box with another one across its middle: between both lands at its sides and the middle one wall each.
        plot = plot_of(walls_of([(0, 0, 2, 0), (2, 0, 4, 0), (4, 0, 6, 0), (0, 2, 2, 2), (2, 2, 4, 2), (4, 2, 6, 2),
                                 (0, 0, 0, 2), (2, 0, 2, 2), (4, 0, 4, 2), (6, 0, 6, 2)]))
        told = neighbours(plot)
        self.assert_told(told, [(0, 1, [0, 3, 6]), (0, 2, [1, 4]), (0, 3, [2, 5, 9]), (1, 2, [7]), (2, 3, [8])])

    def test_rising_by_number_also_past_nine(self):
        pairs = [row[:2] for row in neighbours(plot_of(ladder()))]
        self.assertEqual(pairs, sorted(pairs))
        self.assertEqual(len(pairs), 13 + 12)

    def test_just_where_a_wall_has_a_face_in_each(self):
        for plot in many_plots():
            patches = Patches(plot)
            name = {patches.number[patch]: look_plainly(plot, patches.within(patch))[1] for patch in patches.patches}
            faces = [name[patches.number[patches.patch_at(*left_of(plot, face))]] for face in range(2 * len(plot))]
            awaited = {}
            for number in range(len(plot)):
                awaited.setdefault(tuple(sorted(faces[2 * number:2 * number + 2])), []).append(number)
            told = neighbours(plot)
            self.assert_told(told, [pair + (awaited[pair],) for pair in sorted(awaited) if pair[0] != pair[1]])
            self.assert_told(within(plot), sorted(number for pair, numbers in awaited.items() for number in numbers
                                                  if pair[0] == pair[1]))
            self.assertEqual(sorted(number for row in told for number in row[2]) + within(plot),
                             sorted(set(range(len(plot))) - set(within(plot))) + within(plot))


class Areas(HelperMixin, unittest.TestCase):
    def test_of_a_box(self):
        plot = plot_of(box(0, 0, 4, 3))
        self.assert_told((land_area(plot, 1), area_shut_in(plot)), ((12, 1), (12, 1)))

    def test_with_none_shut_in(self):
        for name in ("none", "one", "upright", "uprights", "star", "open"):
            self.assert_told(area_shut_in(sample_plots()[name]), (0, 1))

    def test_that_is_no_whole_number(self):
        plot = plot_of(walls_of([(0, 0, 1, 0), (0, 0, 0, 1), (1, 0, 0, 1)]))
        self.assert_told((land_area(plot, 1), area_shut_in(plot)), ((1, 2), (1, 2)))

    def test_with_inner_rings(self):
        plot = sample_plots()["within"]
        self.assert_told([land_area(plot, land) for land in (1, 2, 3)], [(80, 1), (48, 1), (16, 1)])
        self.assert_told(area_shut_in(plot), (144, 1))
        plot = sample_plots()["two within"]
        self.assert_told([land_area(plot, land) for land in (1, 2, 3)], [(28, 1), (4, 1), (4, 1)])
        self.assert_told(area_shut_in(plot), (36, 1))
        # Walls that hang freely take nothing away.
        self.assert_told(land_area(sample_plots()["free"], 1), (64, 1))

    def test_beside_one_another(self):
        plot = sample_plots()["beside"]
        self.assert_told([land_area(plot, land) for land in (1, 2, 3)], [(4, 1), (4, 1), (6, 1)])
        self.assert_told(area_shut_in(plot), (14, 1))

    def test_absent(self):
        for plot, lands in ((plot_of(box(0, 0, 4, 4)), 2), ((), 1), (sample_plots()["within"], 4),
                            (sample_plots()["star"], 1)):
            for land in (0, lands, lands + 1, -1, -2, THIRTY, -THIRTY):
                self.assert_told(self.assert_refused(Absent, land_area, plot, land).number, land)

    def test_of_all_lands_together(self):
        for plot in many_plots():
            areas = [land_area(plot, land) for land in range(1, len(lands_of(plot)))]
            self.assert_told(sorted(areas), sorted(as_pair(area) for area in Patches(plot).areas().values()))
            self.assert_told(area_shut_in(plot), as_pair(sum(map(as_exact, areas), Fraction(0))))

    def test_each_lands_own(self):
        for plot in many_plots():
            patches = Patches(plot)
            areas = patches.areas()
            for patch in patches.patches:
                if patches.number[patch] != 0:
                    land = look_plainly(plot, patches.within(patch))[1]
                    self.assert_told(land_area(plot, land), as_pair(areas[patches.number[patch]]))


class WhatHoldsEverywhere(HelperMixin, unittest.TestCase):
    """Promise 2, as far as it touches what is beside."""

    def test_what_is_told_is_the_askers_own(self):
        plot = sample_plots()["free"]
        self.assert_own(lambda: neighbours(plot), lambda told: told[0][2].append(7))
        self.assert_own(lambda: neighbours(plot), lambda told: told.clear())
        self.assert_own(lambda: within(plot), lambda told: told.reverse())

    def test_of_kinds_under_the_told_ones_the_told_kinds_come(self):
        plot = sample_plots()["free"]
        self.assert_told(neighbours(kinds_under(plot)), neighbours(plot))
        self.assert_told(within(kinds_under(plot)), within(plot))
        self.assert_told(land_area(kinds_under(plot), kinds_under(1)), (64, 1))
        self.assert_told(area_shut_in(kinds_under(plot)), (64, 1))
        self.assert_told(self.assert_refused(Absent, land_area, plot, kinds_under(5)).number, 5)

    def test_great_numbers_that_were_told(self):
        plot = parted(walls_of([(-THIRTY, Fraction(1, THIRTY - 2), THIRTY, Fraction(THIRTY, 7)),
                                (0, -THIRTY, 1, THIRTY), (-3, Fraction(THIRTY * 7, 8), Fraction(10 ** 29, 3), -1)]))
        patches = Patches(plot)
        self.assertEqual([as_pair(area) for area in patches.areas().values()], [land_area(plot, 1)])
        self.assert_told(area_shut_in(plot), land_area(plot, 1))
        self.assertEqual([len(row[2]) for row in neighbours(plot)], [3])
        self.assert_told(look_plainly(plot, spot(THIRTY, THIRTY)), ("land", 0))


if __name__ == "__main__":
    unittest.main()
