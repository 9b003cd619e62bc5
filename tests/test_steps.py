"""Promise 17: steps. And of promise 3: they tell just what plain looking tells, by no more looks than told ahead."""

import unittest
from fractions import Fraction

from helper import (HelperMixin, all_ends, box, halved, kinds_under, ladder, lands_at_left, many_plots, sample_plots,
                    spot, walls_of)
from spotlook.above import is_above, spans
from spotlook.plots import corners_of, plot_of
from spotlook.steps import Steps
from spotlook.ways import halves


def awaited_looks(plot, rows, one):
    """The looks of a spot and the answer, as the document tells them, of these steps."""
    looks = []
    passed = halved("corner", list(range(len(rows) - 1)), plot, one, looks)
    if passed is not None:
        row = rows[passed]
        passed = halved("wall", row, plot, one, looks)
        if passed is not None:
            return (looks, ("land", lands_at_left(plot)[row[passed - 1]] if passed else 0))
    return (looks, looks[-1][:2])


class TheSteps(HelperMixin, unittest.TestCase):
    def test_of_the_plot_of_none(self):
        self.assert_told(Steps(()).steps(), [[]])

    def test_of_one_wall(self):
        self.assert_told(Steps(plot_of(walls_of([(0, 0, 3, 1)]))).steps(), [[], [0], []])
        self.assert_told(Steps(plot_of(walls_of([(0, 0, 0, 1)]))).steps(), [[], [0], []])

    def test_of_a_box(self):
        # Behind (0, 0) the left wall lies above the lower one; behind (4, 0) the upper one above the right one.
        self.assert_told(Steps(plot_of(box(0, 0, 4, 4))).steps(), [[], [0, 2], [0, 1], [3, 1], []])

    def test_from_the_lowest_up_in_whatever_order_told(self):
        rows = [(0, 7, 1, 7), (0, 1, 1, 3), (0, 9, 1, 9), (0, 0, 1, 0), (0, 5, 1, 4)]
        steps = Steps(plot_of(walls_of(rows))).steps()
        self.assert_told(steps[5], [3, 1, 4, 0, 2])
        self.assert_told([len(step) for step in steps], [0, 1, 2, 3, 4, 5, 4, 3, 2, 1, 0])
        self.assert_told(steps[:4], [[], [3], [3, 1], [3, 1, 4]])
        self.assert_told(steps[6:9], [[1, 4, 0, 2], [4, 0, 2], [0, 2]])

    def test_with_common_ends(self):
        plot = plot_of(walls_of([(0, 0, 4, 4), (0, 0, 4, -4), (0, 0, 3, 0), (3, 0, 4, 4), (3, 0, 4, -4)]))
        self.assert_told(Steps(plot).steps(), [[], [1, 2, 0], [1, 4, 3, 0], [3, 0], []])

    def test_of_many_plots(self):
        for plot in many_plots():
            steps = Steps(plot).steps()
            corners = corners_of(plot)
            self.assertEqual(len(steps), len(corners) + 1)
            self.assert_told(steps[0], [])
            for passed, corner in enumerate(corners, start=1):
                step = steps[passed]
                # The corner that was passed last is itself one of the spots behind just so many.
                self.assertEqual(sorted(step), [k for k, part in enumerate(plot) if spans(part, corner)])
                for at, upper in enumerate(step):
                    self.assertTrue(all(is_above(plot[upper], plot[lower]) for lower in step[:at]))


class LookingBySteps(HelperMixin, unittest.TestCase):
    def test_of_each_spot_they_tell_what_plain_looking_tells_by_just_the_told_looks(self):
        for plot in many_plots():
            way = Steps(plot)
            rows = way.steps()
            self.assert_finds(way, lambda one: awaited_looks(plot, rows, one))

    def test_each_answer_is_a_land_of_the_plot(self):
        plot = plot_of(box(0, 0, 9, 9) + box(2, 2, 4, 4))
        answers = {answer for looks, answer in all_ends(Steps(plot))}
        self.assertEqual({answer for answer in answers if answer[0] == "land"}, {("land", 0), ("land", 1), ("land", 2)})


class Most(HelperMixin, unittest.TestCase):
    def test_of_some(self):
        self.assert_told(Steps(()).most(), 0)
        # Two corners and one wall: 2 and 1. Four corners, two walls: 3 and 2.
        self.assert_told(Steps(plot_of(walls_of([(0, 0, 3, 1)]))).most(), 3)
        self.assert_told(Steps(plot_of(box(0, 0, 4, 4))).most(), 5)
        # Twenty-eight corners, three walls at most: 5 and 2.
        self.assert_told(Steps(plot_of(ladder())).most(), 7)
        # Eighty corners, forty walls: 7 and 6.
        self.assert_told(Steps(plot_of(walls_of([(0, y, 1, y) for y in range(40)]))).most(), 13)

    def test_of_many_plots(self):
        for plot in many_plots():
            way = Steps(plot)
            self.assert_told(way.most(), halves(len(corners_of(plot))) + max(halves(len(step)) for step in way.steps()))


class WhatHoldsEverywhere(HelperMixin, unittest.TestCase):
    """Promise 2, as far as it touches steps."""

    def test_steps_are_the_askers_own(self):
        way = Steps(sample_plots()["free"])
        self.assert_own(way.steps, lambda told: told[3].append(99))
        self.assert_own(way.steps, lambda told: told[2].reverse())
        self.assert_own(way.steps, lambda told: told.clear())
        self.assert_told(way.look(spot(1, 1)), ("land", 1))
        self.assert_told(way.most(), 4 + 3)

    def test_of_kinds_under_the_told_ones_the_told_kinds_come(self):
        plot = plot_of(box(0, 0, 3, Fraction(4, 3)))
        self.assert_told(Steps(kinds_under(plot)).steps(), Steps(plot).steps())
        self.assert_told(Steps(kinds_under(plot)).most(), 5)


if __name__ == "__main__":
    unittest.main()
