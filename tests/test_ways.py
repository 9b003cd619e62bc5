"""Promises 15 and 16: looks, ways and what leads them to answers, halving. The ways told by hand are steps."""

import unittest
from fractions import Fraction

from helper import (THIRTY, WAYS, HelperMixin, all_ends, box, exact_side, kinds_under, many_plots, many_ways,
                    sample_plots, small_plots, spot, spots_of, walls_of)
from spotlook.cuts import Cuts
from spotlook.layers import Layers
from spotlook.plain import look_plainly
from spotlook.plots import corners_of, plot_of
from spotlook.steps import Steps
from spotlook.ways import Way, halves


def box_way():
    """A way of a box from 0 to 4. Its corners are (0, 0), (0, 4), (4, 0) and (4, 4)."""
    return Steps(plot_of(box(0, 0, 4, 4)))


def some_spots():
    """Spots among the walls of most plots, and beside them."""
    return [spot(Fraction(x, 3), Fraction(2 * x + 1, 3)) for x in range(-1, 20)]


# The looks of the spot in the middle of the box.
MIDDLE = [("corner", 2, -1), ("corner", 1, 1), ("wall", 1, -1), ("wall", 0, 1)]


class Halving(HelperMixin, unittest.TestCase):
    def test_small_numbers(self):
        self.assert_told([halves(n) for n in range(18)], [0, 1, 2, 2, 3, 3, 3, 3, 4, 4, 4, 4, 4, 4, 4, 4, 5, 5])

    def test_about_powers_of_two(self):
        for power in range(2, 100):
            self.assert_told([halves(2 ** power + off) for off in (-1, 0, 1)], [power, power + 1, power + 1])

    def test_thirty_figures(self):
        for n in (THIRTY, 10 ** 29, THIRTY - 1):
            self.assert_told(halves(n), halves(n // 2) + 1)
        self.assert_told(halves(THIRTY), 100)

    def test_of_a_kind_under_the_told_one(self):
        self.assert_told([halves(kinds_under(n)) for n in (0, 1, 9)], [0, 1, 4])

    def test_as_many_looks_are_made_at_most(self):
        for many in range(1, 14):
            # Level walls end to end have one corner more than walls, and each step has one wall at most.
            plot = plot_of(walls_of([(x, 0, x + 1, 0) for x in range(many)]))
            way = Steps(plot)
            counts = [len([look for look in way.looks(spot(Fraction(2 * x + 1, 2), 1)) if look[0] == "corner"])
                      for x in range(-1, many + 1)]
            self.assertEqual(max(counts), halves(many + 1))


class WayItself(HelperMixin, unittest.TestCase):
    def test_where_it_stands(self):
        self.assertEqual(Way.__bases__, (object,))
        for kind, name in ((Steps, "spotlook.steps"), (Layers, "spotlook.layers"), (Cuts, "spotlook.cuts")):
            self.assertEqual((kind.__bases__, kind.__module__), ((Way,), name))
            self.assertIsInstance(kind(()), Way)

    def test_the_plot_is_kept(self):
        for plot in many_plots():
            for kind in WAYS:
                self.assert_told(kind(plot).plot, plot)

    def test_the_plot_is_copied(self):
        plot = plot_of(box(0, 0, 4, 4))
        for kind in WAYS:
            self.assert_told(kind(kinds_under(plot)).plot, plot)

    def test_each_has_its_own_plot(self):
        for kind in WAYS:
            one, other = kind(()), kind(plot_of(box(0, 0, 4, 4)))
            self.assert_told((one.plot, other.plot), ((), plot_of(box(0, 0, 4, 4))))
            self.assert_told((one.look(spot(2, 2)), other.look(spot(2, 2))), (("land", 0), ("land", 1)))


class After(HelperMixin, unittest.TestCase):
    def test_at_the_begin(self):
        self.assert_told(box_way().after([]), ("look", "corner", 2))
        for kind in WAYS:
            self.assert_told(kind(()).after([]), ("told", ("land", 0)))

    def test_on_the_way(self):
        way = box_way()
        self.assert_told(way.after([-1]), ("look", "corner", 1))
        self.assert_told(way.after([-1, 1]), ("look", "wall", 1))
        self.assert_told(way.after([-1, 1, -1]), ("look", "wall", 0))
        self.assert_told(way.after([1]), ("look", "corner", 3))

    def test_sides_behind_which_there_is_an_answer(self):
        way = box_way()
        self.assert_told(way.after([-1, 1, -1, 1]), ("told", ("land", 1)))
        self.assert_told(way.after([-1, 1, -1, -1]), ("told", ("land", 0)))
        self.assert_told(way.after([-1, 1, 1]), ("told", ("land", 0)))
        self.assert_told(way.after([1, 1]), ("told", ("land", 0)))

    def test_a_side_0_gives_the_answer_at_once(self):
        way = box_way()
        self.assert_told(way.after([0]), ("told", ("corner", 2)))
        self.assert_told(way.after([-1, 1, 0]), ("told", ("wall", 1)))

    def test_it_hangs_on_the_sides_alone(self):
        way = box_way()
        before = [way.after(sides) for sides in ([], [-1], [-1, 1], [-1, 1, -1, 1])]
        way.looks(spot(9, 9))
        way.look(spot(4, 4))
        way.led(MIDDLE)
        self.assertEqual([way.after(sides) for sides in ([], [-1], [-1, 1], [-1, 1, -1, 1])], before)

    def test_as_looks_are_made(self):
        for way in many_ways():
            for one in corners_of(way.plot) + some_spots():
                looks = way.looks(one)
                for at, (word, number, side) in enumerate(looks):
                    self.assert_told(way.after([look[2] for look in looks[:at]]), ("look", word, number))
                self.assert_told(way.after([look[2] for look in looks]), ("told", way.look(one)))


class Looks(HelperMixin, unittest.TestCase):
    def test_of_the_plot_of_none(self):
        for kind in WAYS:
            self.assert_told(kind(()).looks(spot(3, 4)), [])
            self.assert_told(kind(()).look(spot(3, 4)), ("land", 0))
            self.assert_told(kind(()).most(), 0)

    def test_to_a_land(self):
        self.assert_told(box_way().looks(spot(2, 2)), MIDDLE)
        self.assert_told(box_way().look(spot(2, 2)), ("land", 1))

    def test_they_end_at_a_side_0(self):
        way = box_way()
        self.assert_told(way.looks(spot(4, 0)), [("corner", 2, 0)])
        self.assert_told(way.look(spot(4, 0)), ("corner", 2))
        self.assert_told(way.looks(spot(2, 4)), MIDDLE[:2] + [("wall", 1, 0)])
        self.assert_told(way.look(spot(2, 4)), ("wall", 1))
        self.assert_told(way.looks(spot(2, 0)), MIDDLE[:3] + [("wall", 0, 0)])
        self.assert_told(way.look(spot(2, 0)), ("wall", 0))

    def test_each_tells_what_is_so(self):
        for way in many_ways():
            for one in corners_of(way.plot) + some_spots():
                for word, number, side in way.looks(one):
                    self.assertIn(word, ("corner", "wall"))
                    self.assert_told(side, exact_side(word, number, way.plot, one))


class Led(HelperMixin, unittest.TestCase):
    def test_to_an_answer(self):
        way = box_way()
        self.assert_told(way.led(MIDDLE), ("land", 1))
        self.assert_told(way.led([("corner", 2, 0)]), ("corner", 2))
        self.assert_told(way.led(MIDDLE[:3] + [("wall", 0, 0)]), ("wall", 0))
        self.assert_told(way.led(MIDDLE[:3] + [("wall", 0, -1)]), ("land", 0))

    def test_the_list_of_none(self):
        for kind in WAYS:
            self.assert_told(kind(()).led([]), ("land", 0))
            self.assert_told(kind(plot_of(box(0, 0, 4, 4))).led([]), None)

    def test_too_short(self):
        for at in range(4):
            self.assert_told(box_way().led(MIDDLE[:at]), None)

    def test_too_long(self):
        way = box_way()
        self.assert_told(way.led(MIDDLE + [("wall", 0, 1)]), None)
        self.assert_told(way.led(MIDDLE + [("land", 1, 0)]), None)
        self.assert_told(way.led([("corner", 2, 0), ("corner", 1, 0)]), None)
        self.assert_told(way.led([("corner", 2, 0), ("corner", 2, 0)]), None)
        self.assert_told(way.led([("corner", 2, 5), ("corner", 1, 1)]), None)
        self.assert_told(Steps(()).led([("corner", 0, 0)]), None)

    def test_another_word_number_or_side(self):
        way = box_way()
        for at, (word, number, side) in enumerate(MIDDLE):
            other_words = [other for other in ("corner", "wall", "land", "told", "look", "") if other != word]
            for other in other_words:
                self.assert_told(way.led(MIDDLE[:at] + [(other, number, side)] + MIDDLE[at + 1:]), None)
            for other in (number + 1, number - 1, -1 - number, 99, THIRTY, -THIRTY):
                self.assert_told(way.led(MIDDLE[:at] + [(word, other, side)] + MIDDLE[at + 1:]), None)
            for other in (2, -2, 3, THIRTY, -THIRTY):
                self.assert_told(way.led(MIDDLE[:at] + [(word, number, other)] + MIDDLE[at + 1:]), None)
        for at in range(3):
            word, number, side = MIDDLE[at]
            for other in (0, -side):
                self.assert_told(way.led(MIDDLE[:at] + [(word, number, other)] + MIDDLE[at + 1:]), None)

    def test_in_another_order(self):
        self.assert_told(box_way().led(MIDDLE[::-1]), None)
        self.assert_told(box_way().led(MIDDLE[1:]), None)

    def test_whatever_its_sides_are(self):
        for way in [kind(plot) for plot in small_plots() for kind in WAYS]:
            for looks, answer in all_ends(way):
                self.assert_told(way.led(looks), answer)
                self.assert_told(way.led(looks[:-1]), None if looks else answer)
                self.assert_told(way.led(looks + looks[-1:]), None if looks else answer)
                self.assert_told(way.led([("corner", 0, 5)] + looks), None)
                self.assertLessEqual(len(looks), way.most())

    def test_looks_that_hold_of_a_spot_lead_to_its_answer(self):
        for way in many_ways():
            for one in corners_of(way.plot) + some_spots():
                self.assert_told(way.led(way.looks(one)), look_plainly(way.plot, one))

    def test_whoever_wrote_looks_that_hold_they_lead_to_the_right_answer(self):
        for plot in small_plots():
            for way in [kind(plot) for kind in WAYS]:
                ends = all_ends(way)
                for one in spots_of(plot):
                    sides = {(word, number): exact_side(word, number, plot, one)
                             for looks, answer in ends for word, number, side in looks}
                    held = [(looks, answer) for looks, answer in ends
                            if all(sides[look[:2]] == look[2] for look in looks)]
                    self.assertEqual(held, [(way.looks(one), look_plainly(plot, one))])


class WhatHoldsEverywhere(HelperMixin, unittest.TestCase):
    """Promise 2, as far as it touches ways."""

    def test_what_is_told_is_the_askers_own(self):
        for way in [kind(plot_of(box(0, 0, 4, 4))) for kind in WAYS]:
            looks = way.looks(spot(2, 2))
            self.assert_own(lambda: way.looks(spot(2, 2)), lambda told: told.pop())
            self.assert_own(lambda: way.looks(spot(2, 2)), lambda told: told.clear())
            self.assert_told(way.look(spot(2, 2)), ("land", 1))
            self.assert_told(way.led(looks), ("land", 1))

    def test_nothing_that_is_handed_in_is_changed(self):
        way = box_way()
        sides, looks = [-1, 1, -1, 1], list(MIDDLE)
        way.after(sides)
        way.led(looks)
        self.assertEqual((sides, looks), ([-1, 1, -1, 1], MIDDLE))

    def test_lists_that_are_handed_in_are_not_kept(self):
        way = box_way()
        sides, looks = [-1], list(MIDDLE)
        self.assert_told(way.after(sides), ("look", "corner", 1))
        self.assert_told(way.led(looks), ("land", 1))
        sides.append(1)
        looks.pop()
        self.assert_told(way.after(sides), ("look", "wall", 1))
        self.assert_told(way.led(looks), None)
        self.assert_told(way.led(MIDDLE), ("land", 1))

    def test_of_kinds_under_the_told_ones_the_told_kinds_come(self):
        way = Steps(kinds_under(plot_of(box(0, 0, 4, 4))))
        self.assert_told(way.looks(kinds_under(spot(2, 2))), MIDDLE)
        self.assert_told(way.look(kinds_under(spot(4, 0))), ("corner", 2))
        self.assert_told(way.led(kinds_under(MIDDLE)), ("land", 1))
        self.assert_told(way.led(kinds_under([("corner", 2, 0)])), ("corner", 2))
        self.assert_told(way.after(kinds_under([-1, 1])), ("look", "wall", 1))

    def test_great_numbers(self):
        hair = Fraction(1, THIRTY)
        for way in [kind(sample_plots()["great"]) for kind in WAYS]:
            for one in (spot(0, 0), spot(hair ** 40, hair ** 39), spot(0, Fraction(-THIRTY, 2)),
                        spot(THIRTY * THIRTY, 0)):
                self.assert_told(way.look(one), look_plainly(way.plot, one))


if __name__ == "__main__":
    unittest.main()
