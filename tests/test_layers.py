"""Promise 18: layers. And of promise 3: they tell just what plain looking tells, by no more looks than told ahead."""

import unittest
from fractions import Fraction

from helper import (THIRTY, HelperMixin, box, exact_above, exact_corners, exact_side, exact_spot, halved, kinds_under,
                    ladder, lands_at_left, many_plots, sample_plots, spot, walls_of)
from spotlook.above import spans
from spotlook.layers import Layers
from spotlook.plain import look_plainly
from spotlook.plots import corners_of, plot_of
from spotlook.ways import halves


def awaited_layers(plot):
    """The layers, by the greatest layer of the walls below each, told by their exact heights."""
    found = {}

    def layer(number):
        if number not in found:
            below = [other for other in range(len(plot)) if other != number and exact_above(plot[number], plot[other])]
            found[number] = max((layer(other) + 1 for other in below), default=0)
        return found[number]

    rows = [[] for each in range(max((layer(number) + 1 for number in range(len(plot))), default=0))]
    for number in sorted(range(len(plot)), key=lambda number: exact_spot(plot[number][0])):
        rows[layer(number)].append(number)
    return rows


def looked_at(word, number, plot, one, looks):
    """The side of one look more, which goes into the list."""
    side = exact_side(word, number, plot, one)
    looks.append((word, number, side))
    return side


def awaited_looks(plot, rows, one):
    """The looks of a spot and the answer, as the document tells them, of these layers."""
    looks = []
    place = exact_corners(plot).index
    for row in reversed(rows):
        passed = halved("corner", [place(exact_spot(plot[number][0])) for number in row], plot, one, looks)
        if passed is None:
            return (looks, looks[-1][:2])
        if passed == 0:
            continue
        last = row[passed - 1]
        side = looked_at("corner", place(exact_spot(plot[last][1])), plot, one, looks)
        if side == -1:
            side = looked_at("wall", last, plot, one, looks)
            if side == 1:
                return (looks, ("land", lands_at_left(plot)[last]))
        if side == 0:
            return (looks, looks[-1][:2])
    return (looks, ("land", 0))


class TheLayers(HelperMixin, unittest.TestCase):
    def test_of_the_plot_of_none(self):
        self.assert_told(Layers(()).layers(), [])

    def test_of_one_wall(self):
        self.assert_told(Layers(plot_of(walls_of([(0, 0, 3, 1)]))).layers(), [[0]])
        self.assert_told(Layers(plot_of(walls_of([(0, 0, 0, 1)]))).layers(), [[0]])

    def test_walls_side_by_side_are_of_one_layer_by_first_ends(self):
        plot = plot_of(walls_of([(6, 9, 7, 9), (0, 5, 1, 5), (4, -3, 5, -3), (2, 0, 3, 0)]))
        self.assert_told(Layers(plot).layers(), [[1, 3, 2, 0]])
        plot = plot_of(walls_of([(2, 0, 3, 0), (1, 5, 2, 0), (0, 0, 1, 5)]))
        self.assert_told(Layers(plot).layers(), [[2, 1, 0]])

    def test_walls_one_above_the_other(self):
        plot = plot_of(walls_of([(0, 7, 1, 7), (0, 1, 1, 3), (0, 9, 1, 9), (0, 0, 1, 0), (0, 5, 1, 4)]))
        self.assert_told(Layers(plot).layers(), [[3], [1], [4], [0], [2]])

    def test_one_more_than_the_greatest_layer_below(self):
        # Above a wall of layer 0 and one of layer 2: layer 3, though one of those below is of layer 0.
        plot = plot_of(walls_of([(0, 9, 9, 9), (0, 0, 2, 0), (5, 0, 7, 0), (5, 1, 7, 1), (5, 2, 7, 2), (8, 0, 9, 0)]))
        self.assert_told(Layers(plot).layers(), [[1, 2, 5], [3], [4], [0]])

    def test_below_by_walls_between_that_span_no_common_spot(self):
        # Each lies above the next one's left part; the first and the last have no spot in common.
        plot = plot_of(walls_of([(0, 6, 4, 6), (3, 4, 8, 4), (7, 2, 12, 2), (11, 0, 13, 0)]))
        self.assert_told(Layers(plot).layers(), [[3], [2], [1], [0]])

    def test_upright_walls(self):
        # Straight one above the other they span no common spot; a level wall passes below the left one.
        plot = plot_of(walls_of([(0, 0, 0, 2), (0, 3, 0, 5), (0, 2, 2, 2), (-2, 3, 0, 3), (-3, -1, 3, -1)]))
        self.assert_told(Layers(plot).layers(), awaited_layers(plot))
        self.assert_told(Layers(plot).layers(), [[4], [0, 2], [3, 1]])

    def test_of_a_box(self):
        # The lower wall and the right one; above these the left one and the upper one.
        self.assert_told(Layers(plot_of(box(0, 0, 4, 4))).layers(), [[0, 3], [2, 1]])

    def test_forty(self):
        level = plot_of(walls_of([(0, y, 1, y) for y in range(40)]))
        self.assert_told(Layers(level).layers(), [[y] for y in range(40)])
        in_a_row = plot_of(walls_of([(x, 0, x + 1, 0) for x in range(39, -1, -1)]))
        self.assert_told(Layers(in_a_row).layers(), [list(range(39, -1, -1))])

    def test_of_many_plots(self):
        for plot in many_plots():
            layers = Layers(plot).layers()
            self.assert_told(layers, awaited_layers(plot))
            for corner in corners_of(plot):
                for row in layers:
                    self.assertLessEqual(len([number for number in row if spans(plot[number], corner)]), 1)


class LookingByLayers(HelperMixin, unittest.TestCase):
    def test_at_one_wall(self):
        way = Layers(plot_of(walls_of([(0, 0, 4, 0)])))
        self.assert_told(way.looks(spot(2, 1)), [("corner", 0, 1), ("corner", 1, -1), ("wall", 0, 1)])
        self.assert_told(way.looks(spot(2, -1)), [("corner", 0, 1), ("corner", 1, -1), ("wall", 0, -1)])
        self.assert_told(way.looks(spot(2, 0)), [("corner", 0, 1), ("corner", 1, -1), ("wall", 0, 0)])
        self.assert_told(way.looks(spot(-1, 0)), [("corner", 0, -1)])
        self.assert_told(way.looks(spot(5, 0)), [("corner", 0, 1), ("corner", 1, 1)])
        self.assert_told(way.looks(spot(0, 0)), [("corner", 0, 0)])
        self.assert_told(way.looks(spot(4, 0)), [("corner", 0, 1), ("corner", 1, 0)])
        # Straight above and below the ends.
        self.assert_told(way.looks(spot(0, -1)), [("corner", 0, -1)])
        self.assert_told(way.looks(spot(0, 1)), [("corner", 0, 1), ("corner", 1, -1), ("wall", 0, 1)])
        self.assert_told(way.looks(spot(4, -1)), [("corner", 0, 1), ("corner", 1, -1), ("wall", 0, -1)])
        self.assert_told(way.looks(spot(4, 1)), [("corner", 0, 1), ("corner", 1, 1)])

    def test_in_the_middle_of_a_box(self):
        way = Layers(plot_of(box(0, 0, 4, 4)))
        self.assert_told(way.looks(spot(2, 2)), [("corner", 1, 1), ("corner", 3, -1), ("wall", 1, -1),
                                                 ("corner", 2, -1), ("corner", 0, 1), ("corner", 2, -1),
                                                 ("wall", 0, 1)])
        self.assert_told(way.look(spot(2, 2)), ("land", 1))

    def test_below_layer_0_the_answer_is_land_0(self):
        way = Layers(sample_plots()["within"])
        self.assert_told([way.look(one) for one in (spot(6, -1), spot(-1, 6), spot(13, 6))], [("land", 0)] * 3)

    def test_of_each_spot_they_tell_what_plain_looking_tells_by_just_the_told_looks(self):
        for plot in many_plots():
            way = Layers(plot)
            rows = way.layers()
            self.assert_finds(way, lambda one: awaited_looks(plot, rows, one))

    def test_forty_one_above_the_other(self):
        way = Layers(plot_of(walls_of([(0, y, 1, y) for y in range(40)])))
        half = Fraction(1, 2)
        for y in range(40):
            self.assert_told(way.look(spot(half, y)), ("wall", y))
            self.assert_told(len(way.looks(spot(half, y + half))), 3 * (40 - y))
        self.assert_told(len(way.looks(spot(half, -1))), way.most())
        self.assert_told(way.after([1, -1, -1] * 40), ("told", ("land", 0)))
        self.assert_told(way.after([-1] * 39), ("look", "corner", 0))


class Led(HelperMixin, unittest.TestCase):
    def test_lists_of_looks(self):
        way = Layers(plot_of(walls_of([(0, 0, 4, 0)])))
        looks = [("corner", 0, 1), ("corner", 1, -1), ("wall", 0, 1)]
        self.assert_told(way.led(looks), ("land", 0))
        self.assert_told(way.led([("corner", 0, -1)]), ("land", 0))
        self.assert_told(way.led([("corner", 0, 1), ("corner", 1, 0)]), ("corner", 1))
        for wrong in (looks[:2], looks + looks[2:], looks[:1] + looks, looks[1:], [("wall", 0, 1)] + looks[1:],
                      [("corner", -2, 1)] + looks[1:], [("corner", 0, 2)], [("corner", 0, THIRTY)] + looks[1:],
                      looks[:2] + [("wall", -1, 1)], looks[:2] + [("wall", THIRTY, 1)], looks[:2] + [("wall", 0, -2)]):
            self.assert_told(way.led(wrong), None)

    def test_a_corner_that_is_looked_at_twice(self):
        # Both walls end at corner 2, which is so looked at once for each layer.
        way = Layers(plot_of(walls_of([(0, 0, 4, 0), (0, 4, 4, 0)])))
        looks = way.looks(spot(5, 0))
        self.assert_told(looks, [("corner", 1, 1), ("corner", 2, 1), ("corner", 0, 1), ("corner", 2, 1)])
        self.assert_told(way.led(looks), ("land", 0))
        self.assert_told(way.led(looks[:3]), None)
        # Sides that no spot has lead on all the same.
        self.assert_told(way.led(looks[:3] + [("corner", 2, 0)]), ("corner", 2))


class Most(HelperMixin, unittest.TestCase):
    def test_of_some(self):
        self.assert_told(Layers(()).most(), 0)
        self.assert_told(Layers(plot_of(walls_of([(0, 0, 3, 1)]))).most(), 3)
        self.assert_told(Layers(plot_of(box(0, 0, 4, 4))).most(), 8)
        self.assert_told(Layers(plot_of(walls_of([(0, y, 1, y) for y in range(40)]))).most(), 120)
        self.assert_told(Layers(plot_of(walls_of([(x, 0, x + 1, 0) for x in range(40)]))).most(), 8)

    def test_of_many_plots(self):
        for plot in many_plots():
            way = Layers(plot)
            self.assert_told(way.most(), sum(halves(len(row)) + 2 for row in way.layers()))


class WhatHoldsEverywhere(HelperMixin, unittest.TestCase):
    """Promise 2, as far as it touches layers."""

    def test_layers_are_the_askers_own(self):
        way = Layers(sample_plots()["free"])
        self.assert_own(way.layers, lambda told: told[1].append(99))
        self.assert_own(way.layers, lambda told: told[0].reverse())
        self.assert_own(way.layers, lambda told: told.clear())
        self.assert_told(way.look(spot(1, 1)), ("land", 1))

    def test_of_kinds_under_the_told_ones_the_told_kinds_come(self):
        plot = plot_of(box(0, 0, 3, Fraction(4, 3)))
        way = Layers(kinds_under(plot))
        self.assert_told(way.layers(), Layers(plot).layers())
        self.assert_told(way.most(), 8)
        self.assert_told(way.looks(kinds_under(spot(1, 1))), Layers(plot).looks(spot(1, 1)))

    def test_forty_walls_of_thirty_figures(self):
        plot = plot_of(walls_of([(-THIRTY + y, Fraction(y, THIRTY), THIRTY - y, Fraction(y + 1, THIRTY + 1 - y))
                                 for y in range(0, 80, 2)]))
        way = Layers(plot)
        self.assert_told(way.layers(), [[y] for y in range(40)])
        one = spot(0, Fraction(41, THIRTY))
        self.assert_told(way.look(one), look_plainly(plot, one))


class ALadder(HelperMixin, unittest.TestCase):
    def test_boxes_in_a_row(self):
        way = Layers(plot_of(ladder()))
        half = Fraction(1, 2)
        for x in range(13):
            self.assert_told(way.look(spot(x + half, half)), look_plainly(way.plot, spot(x + half, half)))


if __name__ == "__main__":
    unittest.main()
