"""Promises 19, 20 and 21: strips, trees of cuts, the fewest looks.

And of promise 3: cuts tell just what plain looking tells, by no more looks than told ahead, and no tree of such cuts
needs fewer looks at most than the told least.
"""

import unittest
from fractions import Fraction
from functools import cache

from helper import (THIRTY, HelperMixin, box, exact_above, exact_corners, exact_side, exact_wall, great_ends,
                    kinds_under, ladder, lands_at_left, many_plots, sample_plots, small_plots, spot, spots_of, walls_of)
from spotlook.cuts import Cuts, fewest
from spotlook.errors import TooMany
from spotlook.plain import look_plainly
from spotlook.plots import corners_of, plot_of
from spotlook.spots import wall_of

NONE = ("land", 0)


class Strips:
    """The cuts of a plot, told by how many corners a spot can be behind (or alike) in a strip."""

    def __init__(self, plot):
        corners = exact_corners(plot)
        self.plot = plot
        self.whole = (0, len(corners) + 1)
        self.ends = [(corners.index(first), corners.index(second)) for first, second in map(exact_wall, plot)]
        # A wall spans the spots behind so many corners.
        self.spans = [set(range(first + 1, second + 1)) for first, second in self.ends]
        self.higher = {(one, other) for one in range(len(plot)) for other in range(len(plot))
                       if one != other and exact_above(plot[one], plot[other])}

    def over(self, strip, walls):
        """The walls that reach over the strip, the lowest first."""
        found = [number for number in walls if self.spans[number] >= set(range(*strip))]
        return sorted(found, key=lambda number: len([other for other in found if (number, other) in self.higher]))

    def into(self, strip, walls):
        return [number for number in walls if self.spans[number] & set(range(*strip))]

    def between(self, strip, walls):
        """The corners at which the strip may be cut."""
        return sorted({end for number in walls for end in self.ends[number] if strip[0] <= end <= strip[1] - 2})

    def at_wall(self, strip, walls, cut):
        """What a cut along a wall leaves of the strip: two pairs of a strip and walls."""
        return ((strip, [number for number in walls if (cut, number) in self.higher]),
                (strip, [number for number in walls if (number, cut) in self.higher]))

    def at_corner(self, strip, walls, cut):
        parts = ((strip[0], cut + 1), (cut + 1, strip[1]))
        return tuple((part, self.into(part, walls)) for part in parts)

    def tree(self, strip, walls, land):
        """The tree that the document tells."""
        if not walls:
            return ("land", land)
        over, between = self.over(strip, walls), self.between(strip, walls)
        if over:
            return self.cut(strip, walls, land, "wall", over[len(over) // 2], self.tree)
        return self.cut(strip, walls, land, "corner", between[len(between) // 2], self.tree)

    def cut(self, strip, walls, land, word, number, grow):
        if word == "wall":
            below, above = self.at_wall(strip, walls, number)
            return (word, number, grow(*below, land), grow(*above, lands_at_left(self.plot)[number]))
        ahead, behind = self.at_corner(strip, walls, number)
        return (word, number, grow(*ahead, land), grow(*behind, land))

    def all_trees(self, strip, walls, land):
        """Each of the other trees."""
        if not walls:
            return [("land", land)]
        cuts = [("wall", number) for number in self.over(strip, walls)]
        cuts += [("corner", number) for number in self.between(strip, walls)]
        trees = []
        for word, number in cuts:
            lower, upper = self.cut(strip, walls, land, word, number, self.all_trees)[2:]
            trees += [(word, number, one, other) for one in lower for other in upper]
        return trees

    def is_enough(self, many):
        """Whether one of the other trees needs no more than so many looks."""
        @cache
        def enough(strip, walls, left):
            if not walls or not left:
                return not walls
            parts = [self.at_wall(strip, walls, number) for number in self.over(strip, walls)]
            parts += [self.at_corner(strip, walls, number) for number in self.between(strip, walls)]
            return any(all(enough(part, tuple(some), left - 1) for part, some in both) for both in parts)

        return enough(self.whole, tuple(range(len(self.plot))), many)


def awaited_tree(plot):
    strips = Strips(plot)
    return strips.tree(strips.whole, list(range(len(plot))), 0)


def deep(tree):
    """How many trees lie one within another, lands not counted."""
    return 0 if tree[0] == "land" else 1 + max(deep(part) for part in tree[2:])


def gone_through(tree, plot, one):
    """The looks and the answer of one who goes through the tree from the outside inwards."""
    looks = []
    while tree[0] != "land":
        word, number, before, past = tree
        side = exact_side(word, number, plot, one)
        looks.append((word, number, side))
        if side == 0:
            return (looks, (word, number))
        tree = before if side == -1 else past
    return (looks, tree)


class TheTree(HelperMixin, unittest.TestCase):
    def test_of_the_plot_of_none(self):
        self.assert_told(Cuts(()).tree(), NONE)

    def test_of_one_wall(self):
        awaited = ("corner", 1, ("corner", 0, NONE, ("wall", 0, NONE, NONE)), NONE)
        for row in ((0, 0, 3, 1), (0, 0, 0, 1), (0, 0, 3, -1)):
            self.assert_told(Cuts(plot_of(walls_of([row]))).tree(), awaited)

    def test_of_a_box(self):
        above_lower = ("wall", 0, NONE, ("land", 1))
        ahead = ("corner", 1, ("corner", 0, NONE, ("wall", 2, above_lower, NONE)), ("wall", 1, above_lower, NONE))
        behind = ("corner", 3, ("wall", 1, ("wall", 3, NONE, ("land", 1)), NONE), NONE)
        self.assert_told(Cuts(plot_of(box(0, 0, 4, 4))).tree(), ("corner", 2, ahead, behind))

    def test_the_land_is_that_above_the_wall(self):
        # Two boxes with a common wall, one above the other: in the middle one passes from land to land.
        plot = plot_of(box(0, 0, 4, 2) + walls_of([(0, 2, 0, 4), (4, 2, 4, 4), (0, 4, 4, 4)]))
        lands = lands_at_left(plot)
        self.assertEqual([lands[number] for number in (0, 1, 6)], [1, 2, 0])
        # Behind (0, 2) and ahead of (4, 0) the two lower walls reach over; above both (0, 4) is cut at.
        above = ("corner", 2, ("wall", 4, ("land", 2), NONE), ("wall", 6, ("land", 2), NONE))
        self.assert_told(Cuts(plot).tree()[2][3], ("wall", 1, ("wall", 0, NONE, ("land", 1)), above))

    def test_of_walls_that_reach_over_that_with_half_of_them_below(self):
        # Walls from one corner to others straight above one another.
        lowest, middle, highest = [("wall", number, NONE, NONE) for number in range(3)]
        ahead = ("corner", 1, ("corner", 0, NONE, ("wall", 1, lowest, highest)), ("wall", 2, middle, NONE))
        self.assert_told(Cuts(plot_of(walls_of([(0, 0, 4, y) for y in range(3)]))).tree(),
                         ("corner", 2, ahead, ("corner", 3, highest, NONE)))
        # Behind corner 0 and ahead of the others all reach over.
        for many in range(1, 41):
            tree = Cuts(plot_of(walls_of([(0, 0, 4, y) for y in range(many)]))).tree()
            while tree[0] == "corner":
                tree = tree[2] if tree[1] > 0 else tree[3]
            self.assert_told(tree[:2], ("wall", many // 2))

    def test_of_corners_that_with_half_of_them_ahead(self):
        for many in range(1, 41):
            plot = plot_of(walls_of([(x, 0, x + 1, 0) for x in range(many)]))
            self.assert_told(Cuts(plot).tree()[:2], ("corner", (many + 1) // 2))

    def test_corners_that_are_no_end_of_the_walls_are_passed_over(self):
        # Above the long wall just one short wall is left: of the six corners its own alone are cut at.
        plot = plot_of(walls_of([(0, 0, 9, 0), (2, 1, 3, 1), (5, -1, 6, -1)]))
        tree = Cuts(plot).tree()
        self.assert_told(tree, awaited_tree(plot))

        def words(part):
            return [] if part[0] == "land" else [part[:2]] + words(part[2]) + words(part[3])

        above = [part for part in subtrees(tree) if part[:2] == ("wall", 0)]
        self.assertTrue(above)
        for part in above:
            self.assertFalse({("corner", 3), ("corner", 4)} & set(words(part[3])))
            self.assertFalse({("corner", 1), ("corner", 2)} & set(words(part[2])))

    def test_of_many_plots(self):
        for plot in many_plots() + small_plots():
            self.assert_told(Cuts(plot).tree(), awaited_tree(plot))


def subtrees(tree):
    return [tree] if tree[0] == "land" else [tree] + subtrees(tree[2]) + subtrees(tree[3])


class LookingByCuts(HelperMixin, unittest.TestCase):
    def test_at_one_wall(self):
        way = Cuts(plot_of(walls_of([(0, 0, 4, 0)])))
        self.assert_told(way.looks(spot(2, 1)), [("corner", 1, -1), ("corner", 0, 1), ("wall", 0, 1)])
        self.assert_told(way.looks(spot(2, 0)), [("corner", 1, -1), ("corner", 0, 1), ("wall", 0, 0)])
        self.assert_told(way.look(spot(2, 0)), ("wall", 0))
        self.assert_told(way.looks(spot(5, 0)), [("corner", 1, 1)])
        self.assert_told(way.looks(spot(4, 0)), [("corner", 1, 0)])
        self.assert_told(way.look(spot(4, 0)), ("corner", 1))
        self.assert_told(way.looks(spot(-1, 0)), [("corner", 1, -1), ("corner", 0, -1)])
        self.assert_told(way.looks(spot(4, -1)), [("corner", 1, -1), ("corner", 0, 1), ("wall", 0, -1)])

    def test_of_each_spot_they_tell_what_plain_looking_tells_by_just_the_told_looks(self):
        for plot in many_plots():
            way = Cuts(plot)
            tree = way.tree()
            self.assert_finds(way, lambda one: gone_through(tree, plot, one))

    def test_led(self):
        way = Cuts(plot_of(walls_of([(0, 0, 4, 0)])))
        looks = [("corner", 1, -1), ("corner", 0, 1), ("wall", 0, 1)]
        self.assert_told(way.led(looks), NONE)
        self.assert_told(way.led(looks[:2] + [("wall", 0, 0)]), ("wall", 0))
        for wrong in (looks[:2], looks + looks[2:], looks[:1] + looks, looks[1:], [("wall", 1, -1)] + looks[1:],
                      [("corner", -1, -1)] + looks[1:], [("corner", 1, -2)], [("corner", THIRTY, -1)] + looks[1:],
                      looks[:2] + [("wall", 0, 3)], looks[:2] + [("land", 0, 1)], looks[:2] + [("wall", -1, 1)]):
            self.assert_told(way.led(wrong), None)


class Most(HelperMixin, unittest.TestCase):
    def test_of_some(self):
        self.assert_told(Cuts(()).most(), 0)
        self.assert_told(Cuts(plot_of(walls_of([(0, 0, 3, 1)]))).most(), 3)
        self.assert_told(Cuts(plot_of(box(0, 0, 4, 4))).most(), 5)

    def test_of_many_plots(self):
        for plot in many_plots() + small_plots():
            self.assert_told(Cuts(plot).most(), deep(awaited_tree(plot)))

    def test_forty_walls(self):
        level = Cuts(plot_of(walls_of([(0, y, 1, y) for y in range(40)])))
        self.assert_told(level.most(), deep(level.tree()))
        nested = Cuts(plot_of([one for k in range(10) for one in box(k, k, 30 - k, 30 - k)]))
        self.assert_told(nested.most(), deep(nested.tree()))
        self.assert_told(nested.look(spot(15, 15)), ("land", 10))


class Fewest(HelperMixin, unittest.TestCase):
    def test_of_some(self):
        self.assert_told(fewest(()), 0)
        self.assert_told(fewest(plot_of(walls_of([(0, 0, 3, 1)]))), 3)
        self.assert_told(fewest(plot_of(walls_of([(0, 0, 0, 1)]))), 3)
        self.assert_told(fewest(plot_of(box(0, 0, 4, 4))), 5)

    def test_of_all_trees_the_least(self):
        compared = 0
        for plot in small_plots():
            if len(plot) <= 2:
                strips = Strips(plot)
                trees = strips.all_trees(strips.whole, list(range(len(plot))), 0)
                self.assertIn(Cuts(plot).tree(), trees)
                self.assert_told(fewest(plot), min(deep(tree) for tree in trees))
                compared += len(trees)
        self.assertGreater(compared, 100)

    def test_so_many_are_enough_and_one_less_is_not(self):
        for plot in small_plots():
            strips, told = Strips(plot), fewest(plot)
            self.assertTrue(strips.is_enough(told))
            self.assertFalse(told and strips.is_enough(told - 1))

    def test_the_cuts_of_a_plot_need_no_fewer(self):
        differences = [Cuts(plot).most() - fewest(plot) for plot in small_plots()]
        self.assertGreaterEqual(min(differences), 0)
        self.assertGreater(max(differences), 0)

    def test_other_trees_find_the_land_too(self):
        plot = plot_of(walls_of([(0, 0, 4, 0), (1, 1, 3, 1)]))
        strips = Strips(plot)
        trees = strips.all_trees(strips.whole, [0, 1], 0)
        for one in spots_of(plot):
            answer = look_plainly(plot, one)
            for tree in trees:
                self.assertEqual(gone_through(tree, plot, one)[1], answer)

    def test_more_than_five_walls_are_refused(self):
        for many in (6, 7, 39, 40):
            plot = plot_of(walls_of([(x, 0, x + 1, 0) for x in range(many)]))
            self.assert_told(self.assert_refused(TooMany, fewest, plot).count, many)
        self.assert_told(self.assert_refused(TooMany, fewest, plot_of(ladder())).count, 40)

    def test_five_walls_are_not(self):
        for rows in ([(x, 0, x + 1, 0) for x in range(5)], [(0, y, 1, y) for y in range(5)],
                     [(x, 0, x, 2) for x in range(5)]):
            plot = plot_of(walls_of(rows))
            told = fewest(plot)
            self.assertTrue(Strips(plot).is_enough(told) and not Strips(plot).is_enough(told - 1))


class WhatHoldsEverywhere(HelperMixin, unittest.TestCase):
    """Promise 2, as far as it touches cuts."""

    def test_of_kinds_under_the_told_ones_the_told_kinds_come(self):
        plot = plot_of(box(0, 0, 3, Fraction(4, 3)))
        way = Cuts(kinds_under(plot))
        self.assert_told(way.tree(), Cuts(plot).tree())
        self.assert_told(way.most(), 5)
        self.assert_told(fewest(kinds_under(plot)), 5)

    def test_what_was_told_stays(self):
        way = Cuts(sample_plots()["free"])
        tree = way.tree()
        way.looks(spot(1, 1)).clear()
        self.assert_told(way.tree(), tree)
        self.assert_told(way.tree(), awaited_tree(way.plot))

    def test_numbers_of_thirty_figures(self):
        plot = plot_of([wall_of(one, other) for one, other in great_ends()][:5])
        self.assert_told(Cuts(plot).tree(), awaited_tree(plot))
        self.assertTrue(Strips(plot).is_enough(fewest(plot)))
        for one in corners_of(plot):
            self.assert_told(Cuts(plot).look(one), look_plainly(plot, one))


if __name__ == "__main__":
    unittest.main()
