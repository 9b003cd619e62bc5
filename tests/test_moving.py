"""Promises 28 and 29: plots moved, mirrored, turned, put in another order, and what their lands become."""

import unittest
from fractions import Fraction
from random import Random

from helper import (THIRTY, HelperMixin, box, exact_spot, exact_wall, kinds_under, many_plots, sample_plots, spot,
                    spots_of, walls_of)
from spotlook.beside import land_area
from spotlook.lands import lands_of, lands_of_faces
from spotlook.moving import in_order, lands_in_order, lands_mirrored, lands_turned, mirrored, moved, turned
from spotlook.plain import look_plainly
from spotlook.plots import plot_of
from spotlook.spots import is_ahead


def spot_moved(one, by):
    return spot(*[number + more for number, more in zip(exact_spot(one), exact_spot(by))])


def spot_mirrored(one):
    x, y = exact_spot(one)
    return spot(-x, y)


def spot_turned(one):
    x, y = exact_spot(one)
    return spot(-y, x)


def walls_changed(plot, change):
    """The walls with their ends changed, the end ahead first."""
    return tuple(tuple(sorted(map(change, one), key=exact_spot)) for one in plot)


class BecameMixin(HelperMixin):
    def assert_lands_became(self, plot, there, became, change):
        """Each spot of a land, changed, is of the land that this has become, and the walls keep their numbers."""
        self.assert_told(sorted(became), list(range(len(lands_of(plot)))))
        self.assert_told(became[0], 0)
        for one in spots_of(plot)[::3]:
            word, number = look_plainly(plot, one)
            if word != "corner":
                self.assert_told(look_plainly(there, change(one)), (word, became[number] if word == "land" else number))
        for land in range(1, len(became)):
            self.assert_told(land_area(there, became[land]), land_area(plot, land))


class Moved(HelperMixin, unittest.TestCase):
    def test_a_wall(self):
        plot = plot_of(walls_of([(0, 0, 3, 1)]))
        self.assert_told(moved(plot, spot(2, Fraction(-1, 2))),
                         plot_of(walls_of([(2, Fraction(-1, 2), 5, Fraction(1, 2))])))
        self.assert_told(moved((), spot(1, 1)), ())
        self.assert_told(moved(plot, spot(0, 0)), plot)

    def test_and_moved_back(self):
        for plot in many_plots():
            for by in (spot(3, -7), spot(Fraction(1, 3), Fraction(-22, 7)), spot(THIRTY, Fraction(1, THIRTY))):
                there = moved(plot, by)
                self.assert_told(there, walls_changed(plot, lambda one: spot_moved(one, by)))
                x, y = exact_spot(by)
                self.assert_told(moved(there, spot(-x, -y)), plot)

    def test_the_lands_keep_their_numbers(self):
        for plot in many_plots():
            by = spot(Fraction(-5, 3), 11)
            there = moved(plot, by)
            self.assert_told(lands_of(there), lands_of(plot))
            for one in spots_of(plot)[::4]:
                self.assert_told(look_plainly(there, spot_moved(one, by)), look_plainly(plot, one))


class Mirrored(BecameMixin, unittest.TestCase):
    def test_a_wall(self):
        # The ends are exchanged, but those of an upright wall.
        plot = plot_of(walls_of([(0, 0, 3, 1), (5, 2, 5, 7)]))
        self.assert_told(mirrored(plot), ((spot(-3, 1), spot(0, 0)), (spot(-5, 2), spot(-5, 7))))
        self.assert_told(mirrored(()), ())

    def test_twice(self):
        for plot in many_plots():
            self.assert_told(mirrored(plot), walls_changed(plot, spot_mirrored))
            self.assert_told(mirrored(mirrored(plot)), plot)

    def test_lands_by_hand(self):
        self.assert_told(lands_mirrored(()), [0])
        self.assert_told(lands_mirrored(sample_plots()["star"]), [0])
        self.assert_told(lands_mirrored(plot_of(box(0, 0, 4, 4))), [0, 1])
        # The common wall is told first: at its left lies the box that has the first face, mirrored that is the other.
        plot = plot_of(walls_of([(2, 0, 2, 2), (0, 0, 2, 0), (2, 0, 4, 0), (0, 2, 2, 2), (2, 2, 4, 2), (0, 0, 0, 2),
                                 (4, 0, 4, 2)]))
        self.assert_told(lands_mirrored(plot), [0, 2, 1])

    def test_each_land_has_become_the_told_one(self):
        exchanged = 0
        for plot in many_plots():
            became, there = lands_mirrored(plot), mirrored(plot)
            self.assert_lands_became(plot, there, became, spot_mirrored)
            back = lands_mirrored(there)
            self.assert_told([back[land] for land in became], list(range(len(became))))
            exchanged += became != sorted(became)
        self.assertGreater(exchanged, 2)


class Turned(BecameMixin, unittest.TestCase):
    def test_a_wall(self):
        plot = plot_of(walls_of([(0, 0, 3, 1), (5, 2, 5, 7), (0, 9, 4, 9)]))
        self.assert_told(turned(plot), ((spot(-1, 3), spot(0, 0)), (spot(-7, 5), spot(-2, 5)),
                                        (spot(-9, 0), spot(-9, 4))))
        self.assert_told(turned(()), ())

    def test_four_times(self):
        for plot in many_plots():
            there = turned(plot)
            self.assert_told(there, walls_changed(plot, spot_turned))
            self.assert_told(turned(turned(turned(there))), plot)

    def test_twice_is_mirrored_both_ways(self):
        for plot in many_plots():
            self.assert_told(turned(turned(plot)), walls_changed(plot, lambda one: spot_turned(spot_turned(one))))
            self.assert_told(mirrored(turned(plot)), turned(turned(turned(mirrored(plot)))))

    def test_lands_by_hand(self):
        self.assert_told(lands_turned(()), [0])
        self.assert_told(lands_turned(sample_plots()["star"]), [0])
        self.assert_told(lands_turned(plot_of(box(0, 0, 4, 4))), [0, 1])
        # The common wall, told first, is level: turned its first end lies at the left land's other side.
        plot = plot_of(walls_of([(0, 2, 2, 2), (0, 0, 0, 2), (0, 2, 0, 4), (2, 0, 2, 2), (2, 2, 2, 4), (0, 0, 2, 0),
                                 (0, 4, 2, 4)]))
        self.assert_told(lands_turned(plot), [0, 1, 2])
        self.assert_told(lands_turned(turned(plot)), [0, 2, 1])

    def test_each_land_has_become_the_told_one(self):
        exchanged = 0
        for plot in many_plots():
            became, there = lands_turned(plot), turned(plot)
            self.assert_lands_became(plot, there, became, spot_turned)
            land_numbers = list(range(len(became)))
            for each in range(4):
                land_numbers = [lands_turned(plot)[land] for land in land_numbers]
                plot = turned(plot)
            self.assert_told(land_numbers, list(range(len(became))))
            exchanged += became != sorted(became)
        self.assertGreater(exchanged, 3)


class InOrder(HelperMixin, unittest.TestCase):
    def test_by_hand(self):
        walls = box(0, 0, 9, 9) + box(2, 2, 4, 4)
        plot = plot_of(walls)
        self.assert_told(in_order(plot, [4, 5, 6, 7, 0, 1, 2, 3]), plot_of(walls[4:] + walls[:4]))
        self.assert_told(lands_in_order(plot, [4, 5, 6, 7, 0, 1, 2, 3]), [0, 2, 1])
        self.assert_told(lands_in_order(plot, [0, 1, 2, 3, 4, 5, 6, 7]), [0, 1, 2])
        self.assert_told((in_order((), []), lands_in_order((), [])), ((), [0]))

    def test_wall_k_is_the_old_one_with_the_number_at_k(self):
        plot = plot_of(walls_of([(x, 0, x, 1) for x in range(4)]))
        order = [2, 0, 3, 1]
        self.assert_told(in_order(plot, order), (plot[2], plot[0], plot[3], plot[1]))

    def test_an_order_that_goes_round_three_lands(self):
        boxes = [box(x, 0, x + 2, 2) for x in (0, 3, 6)]
        plot = plot_of([one for part in boxes for one in part])
        # The first one comes to stand last.
        order = list(range(4, 12)) + list(range(4))
        self.assert_told(lands_in_order(plot, order), [0, 3, 1, 2])

    def test_of_many_plots(self):
        for seed, plot in enumerate(many_plots()):
            order = list(range(len(plot)))
            Random(seed).shuffle(order)
            there, became = in_order(plot, order), lands_in_order(plot, order)
            self.assert_told(there, plot_of([plot[number] for number in order]))
            self.assert_told(sorted(became), list(range(len(lands_of(plot)))))
            for one in spots_of(plot)[::2]:
                word, number = look_plainly(plot, one)
                awaited = {"land": lambda: became[number], "wall": lambda: order.index(number),
                           "corner": lambda: number}[word]()
                self.assert_told(look_plainly(there, one), (word, awaited))
            faces, there_faces = lands_of_faces(plot), lands_of_faces(there)
            self.assertEqual([became[faces[2 * number + side]] for number in order for side in range(2)], there_faces)


class WhatHoldsEverywhere(HelperMixin, unittest.TestCase):
    """Promise 2, as far as it touches moving."""

    def test_plots_told_are_plots(self):
        for plot in many_plots():
            for told in (moved(plot, spot(1, 2)), mirrored(plot), turned(plot)):
                self.assert_told(plot_of(list(told)), told)
                self.assertTrue(all(is_ahead(first, second) for first, second in told))
                self.assertEqual([exact_wall(one) for one in told], [exact_wall(one) for one in plot_of(list(told))])

    def test_nothing_that_is_handed_in_is_changed(self):
        plot = plot_of(box(0, 0, 4, 4))
        order = [3, 1, 2, 0]
        told = (in_order(plot, order), lands_in_order(plot, order))
        self.assertEqual(order, [3, 1, 2, 0])
        order.reverse()
        self.assert_told((in_order(plot, [3, 1, 2, 0]), lands_in_order(plot, [3, 1, 2, 0])), told)

    def test_what_is_told_is_the_askers_own(self):
        plot = sample_plots()["within"]
        for ask in (lambda: lands_mirrored(plot), lambda: lands_turned(plot),
                    lambda: lands_in_order(plot, list(range(len(plot))))):
            self.assert_own(ask, lambda told: told.pop())

    def test_of_kinds_under_the_told_ones_the_told_kinds_come(self):
        plot = plot_of(box(0, 0, 4, Fraction(9, 2)))
        under = kinds_under(plot)
        self.assert_told(moved(under, kinds_under(spot(1, 2))), moved(plot, spot(1, 2)))
        self.assert_told(moved(under, kinds_under(spot(0, 0))), plot)
        self.assert_told((mirrored(under), turned(under)), (mirrored(plot), turned(plot)))
        self.assert_told((lands_mirrored(under), lands_turned(under)), ([0, 1], [0, 1]))
        self.assert_told(in_order(under, kinds_under([3, 2, 1, 0])), in_order(plot, [3, 2, 1, 0]))
        self.assert_told(lands_in_order(under, kinds_under([3, 2, 1, 0])), [0, 1])


if __name__ == "__main__":
    unittest.main()
