"""Promise 22: looks that hold, and looks that show an answer."""

import unittest
from fractions import Fraction

from helper import (THIRTY, WAYS, HelperMixin, all_ends, box, exact_corners, exact_side, kinds_under, many_plots,
                    many_ways, sample_plots, small_plots, spot, spots_of, walls_of)
from spotlook.papers import looks_hold, looks_show
from spotlook.plain import look_plainly
from spotlook.plots import plot_of
from spotlook.steps import Steps

MIDDLE = spot(2, 2)
# Of the middle of a box from 0 to 4, whose corners are (0, 0), (0, 4), (4, 0), (4, 4).
TRUE_LOOKS = [("corner", 0, 1), ("corner", 1, 1), ("corner", 2, -1), ("corner", 3, -1), ("wall", 0, 1), ("wall", 1, -1),
              ("wall", 2, -1), ("wall", 3, 1)]


def box_plot():
    return plot_of(box(0, 0, 4, 4))


class Hold(HelperMixin, unittest.TestCase):
    def assert_holds(self, awaited, plot, one, looks):
        self.assert_told(looks_hold(plot, one, looks), awaited)

    def test_the_list_of_none(self):
        self.assert_holds(True, box_plot(), MIDDLE, [])
        self.assert_holds(True, (), MIDDLE, [])

    def test_each_by_itself_and_all_together(self):
        for look in TRUE_LOOKS:
            self.assert_holds(True, box_plot(), MIDDLE, [look])
        self.assert_holds(True, box_plot(), MIDDLE, TRUE_LOOKS)
        self.assert_holds(True, box_plot(), MIDDLE, TRUE_LOOKS[::-1] + TRUE_LOOKS)

    def test_another_side(self):
        for word, number, side in TRUE_LOOKS:
            for other in (-side, 0, 2, -2, 3, THIRTY, -THIRTY):
                self.assert_holds(False, box_plot(), MIDDLE, [(word, number, other)])

    def test_another_word(self):
        for word in ("land", "Corner", "corner ", "walls", "wal", "", "told", "look"):
            for side in (-1, 0, 1):
                self.assert_holds(False, box_plot(), MIDDLE, [(word, 0, side)])

    def test_a_number_of_no_corner_or_wall(self):
        for number in (4, 5, -1, -2, -3, -4, -5, 40, THIRTY, -THIRTY):
            for side in (-1, 0, 1):
                self.assert_holds(False, box_plot(), MIDDLE, [("corner", number, side)])
                self.assert_holds(False, box_plot(), MIDDLE, [("wall", number, side)])
        for word in ("corner", "wall"):
            for side in (-1, 0, 1):
                self.assert_holds(False, (), MIDDLE, [(word, 0, side)])

    def test_corners_and_walls_have_numbers_of_their_own(self):
        plot = plot_of(walls_of([(0, 0, 4, 0)]))
        self.assert_holds(True, plot, spot(2, 1), [("corner", 1, -1)])
        self.assert_holds(False, plot, spot(2, 1), [("wall", 1, -1)])
        self.assert_holds(False, plot, spot(2, 1), [("wall", 1, 1)])
        # Forty walls, twenty-eight corners.
        plot = sample_plots()["ladder"]
        self.assert_holds(True, plot, spot(99, 0), [("corner", 27, 1)])
        self.assert_holds(False, plot, spot(99, 0), [("corner", 28, 1)])
        self.assert_holds(True, plot, spot(99, 0), [("wall", 39, -1)])

    def test_one_that_does_not_hold_among_others(self):
        for at in range(len(TRUE_LOOKS) + 1):
            for wrong in (("wall", 0, -1), ("wall", 0, 0), ("corner", 4, 1), ("land", 1, 1)):
                self.assert_holds(False, box_plot(), MIDDLE, TRUE_LOOKS[:at] + [wrong] + TRUE_LOOKS[at:])

    def test_side_0(self):
        self.assert_holds(True, box_plot(), spot(4, 0), [("corner", 2, 0), ("wall", 0, 0), ("wall", 3, 0)])
        self.assert_holds(True, box_plot(), spot(2, 0), [("wall", 0, 0)])
        # Also beside the ends of the wall.
        self.assert_holds(True, box_plot(), spot(9, 0), [("wall", 0, 0)])
        self.assert_holds(True, box_plot(), spot(0, -7), [("wall", 2, 0)])
        self.assert_holds(False, box_plot(), spot(9, 0), [("wall", 0, 1)])

    def test_looks_of_another_spot(self):
        self.assert_holds(False, box_plot(), spot(5, 2), TRUE_LOOKS)
        self.assert_holds(False, box_plot(), spot(2, -Fraction(1, THIRTY)), TRUE_LOOKS)
        self.assert_holds(True, box_plot(), spot(Fraction(1, THIRTY), Fraction(1, THIRTY)), TRUE_LOOKS)

    def test_all_looks_at_many_plots(self):
        for plot in many_plots():
            many = {"corner": len(exact_corners(plot)), "wall": len(plot)}
            for one in spots_of(plot)[::5]:
                for word in ("corner", "wall"):
                    for number in range(0, many[word], 3):
                        held = [side for side in (-1, 0, 1) if looks_hold(plot, one, [(word, number, side)])]
                        self.assertEqual(held, [exact_side(word, number, plot, one)])


class Show(HelperMixin, unittest.TestCase):
    def assert_shows(self, awaited, way, one, answer, looks):
        self.assert_told(looks_show(way, one, answer, looks), awaited)

    def test_the_looks_of_a_spot_show_its_answer(self):
        for way in many_ways():
            for one in spots_of(way.plot)[::5]:
                self.assert_shows(True, way, one, look_plainly(way.plot, one), way.looks(one))

    def test_another_answer(self):
        for kind in WAYS:
            way = kind(box_plot())
            looks = way.looks(MIDDLE)
            self.assert_shows(True, way, MIDDLE, ("land", 1), looks)
            for answer in (("land", 0), ("land", 2), ("land", -1), ("wall", 1), ("corner", 1), ("", 1), ("Land", 1),
                           ("land", THIRTY), ("land", -THIRTY)):
                self.assert_shows(False, way, MIDDLE, answer, looks)

    def test_of_the_plot_of_none(self):
        for kind in WAYS:
            self.assert_shows(True, kind(()), MIDDLE, ("land", 0), [])
            self.assert_shows(False, kind(()), MIDDLE, ("land", 1), [])
            self.assert_shows(False, kind(()), MIDDLE, ("land", 0), [("corner", 0, 1)])
            self.assert_shows(False, kind(()), MIDDLE, ("corner", 0), [("corner", 0, 0)])

    def test_looks_that_hold_but_lead_nowhere(self):
        for kind in WAYS:
            way = kind(box_plot())
            looks = way.looks(MIDDLE)
            for wrong in ([], looks[:-1], looks[1:], looks + looks[-1:], looks[:1] + looks, looks[::-1], TRUE_LOOKS):
                self.assertTrue(looks_hold(way.plot, MIDDLE, wrong))
                self.assert_shows(False, way, MIDDLE, ("land", 1), wrong)

    def test_looks_that_lead_but_do_not_hold(self):
        for kind in WAYS:
            way = kind(box_plot())
            for looks, answer in all_ends(way):
                self.assert_shows(looks == way.looks(MIDDLE), way, MIDDLE, answer, looks)

    def test_looks_of_another_spot(self):
        for kind in WAYS:
            way = kind(box_plot())
            for other in (spot(5, 2), spot(2, 5), spot(2, 4), spot(4, 4)):
                looks = way.looks(other)
                self.assert_shows(True, way, other, way.look(other), looks)
                self.assert_shows(False, way, MIDDLE, way.look(other), looks)
                self.assert_shows(False, way, MIDDLE, ("land", 1), looks)

    def test_looks_of_another_way(self):
        ways = [kind(sample_plots()["free"]) for kind in WAYS]
        for one in ways:
            for other in ways:
                self.assert_shows(one is other, one, spot(7, 5), ("land", 1), other.looks(spot(7, 5)))
        looks = Steps(box_plot()).looks(MIDDLE)
        self.assert_shows(False, Steps(plot_of(box(0, 0, 3, 1))), MIDDLE, ("land", 1), looks)

    def test_whoever_wrote_them_they_show_the_right_answer_alone(self):
        for plot in small_plots()[::3]:
            for way in [kind(plot) for kind in WAYS]:
                ends = all_ends(way)
                for one in spots_of(plot)[::4]:
                    shown = [answer for looks, answer in ends if looks_show(way, one, answer, looks)]
                    self.assertEqual(shown, [look_plainly(plot, one)])


class WhatHoldsEverywhere(HelperMixin, unittest.TestCase):
    """Promise 2, as far as it touches papers."""

    def test_nothing_that_is_handed_in_is_changed(self):
        way = Steps(box_plot())
        looks = way.looks(MIDDLE)
        kept = list(looks)
        looks_hold(way.plot, MIDDLE, looks)
        looks_show(way, MIDDLE, ("land", 1), looks)
        self.assert_told(looks, kept)

    def test_of_kinds_under_the_told_ones(self):
        way = Steps(box_plot())
        looks = kinds_under(way.looks(MIDDLE))
        self.assert_told(looks_hold(kinds_under(way.plot), kinds_under(MIDDLE), looks), True)
        self.assert_told(looks_show(way, kinds_under(MIDDLE), kinds_under(("land", 1)), looks), True)
        self.assert_told(looks_show(way, kinds_under(MIDDLE), kinds_under(("land", 2)), looks), False)

    def test_great_numbers(self):
        way = Steps(sample_plots()["great"])
        one = spot(Fraction(1, THIRTY ** 3), Fraction(-1, THIRTY ** 4))
        self.assert_told(looks_show(way, one, way.look(one), way.looks(one)), True)
        self.assert_told(looks_hold(way.plot, spot(THIRTY ** 2, 0), way.looks(one)), False)


if __name__ == "__main__":
    unittest.main()
