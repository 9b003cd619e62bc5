"""Promises 7 and 8: how walls meet, plots and what is none, corners."""

import unittest
from fractions import Fraction

from helper import THIRTY, HelperMixin, box, exact_meeting, exact_spot, kinds_under, ladder, spot, wall, walls_of
from spotlook.errors import Crossing, TooMany
from spotlook.plots import corners_of, meeting, plot_of
from spotlook.spots import lies_on, wall_of


def grid_walls(wide, high):
    spots = [spot(x, y) for x in range(wide) for y in range(high)]
    return [wall_of(one, other) for at, one in enumerate(spots) for other in spots[:at]]


class Meetings(HelperMixin, unittest.TestCase):
    def assert_meeting(self, one, other, awaited):
        self.assert_told(meeting(one, other), awaited)
        self.assert_told(meeting(other, one), awaited)

    def test_crossing(self):
        self.assert_meeting(wall(0, 0, 4, 4), wall(0, 4, 4, 0), ("spot", spot(2, 2)))
        self.assert_meeting(wall(0, 0, 1, 1), wall(0, 1, 3, 0), ("spot", spot(Fraction(3, 4), Fraction(3, 4))))
        self.assert_meeting(wall(-2, 1, 5, 1), wall(0, -7, 0, 7), ("spot", spot(0, 1)))
        self.assert_meeting(wall(0, -7, 0, 7), wall(-1, 0, 2, 1), ("spot", spot(0, Fraction(1, 3))))

    def test_touching_at_an_end_of_one(self):
        self.assert_meeting(wall(0, 0, 4, 4), wall(2, 2, 5, 0), ("spot", spot(2, 2)))
        self.assert_meeting(wall(0, 0, 4, 4), wall(-1, 7, 3, 3), ("spot", spot(3, 3)))
        self.assert_meeting(wall(0, 0, 0, 4), wall(0, 1, 3, 1), ("spot", spot(0, 1)))
        self.assert_meeting(wall(0, 0, 4, 0), wall(1, -3, 1, 0), ("spot", spot(1, 0)))

    def test_touching_at_an_end_of_both(self):
        self.assert_meeting(wall(0, 0, 4, 4), wall(0, 0, 4, 3), ("spot", spot(0, 0)))
        self.assert_meeting(wall(0, 0, 4, 4), wall(1, 9, 4, 4), ("spot", spot(4, 4)))
        self.assert_meeting(wall(0, 0, 4, 4), wall(4, 4, 5, 0), ("spot", spot(4, 4)))
        self.assert_meeting(wall(0, 0, 0, 4), wall(0, 4, 3, 4), ("spot", spot(0, 4)))

    def test_apart(self):
        self.assert_meeting(wall(0, 0, 4, 4), wall(0, 1, 4, 5), None)
        self.assert_meeting(wall(0, 0, 4, 4), wall(5, 0, 9, 1), None)
        self.assert_meeting(wall(0, 0, 0, 4), wall(1, 0, 1, 4), None)
        self.assert_meeting(wall(0, 0, 4, 0), wall(0, 1, 4, 1), None)

    def test_apart_where_one_line_goes_through_the_other_wall(self):
        self.assert_meeting(wall(0, 0, 4, 0), wall(1, 1, 2, 5), None)
        self.assert_meeting(wall(0, 0, 4, 0), wall(1, -5, 1, -1), None)
        self.assert_meeting(wall(0, 0, 4, 4), wall(5, 5, 6, 0), None)

    def test_on_one_line_apart(self):
        self.assert_meeting(wall(0, 0, 1, 2), wall(2, 4, 3, 6), None)
        self.assert_meeting(wall(0, 0, 0, 2), wall(0, 3, 0, 4), None)
        self.assert_meeting(wall(0, 5, 1, 5), wall(2, 5, 3, 5), None)

    def test_on_one_line_end_to_end(self):
        self.assert_meeting(wall(0, 0, 1, 2), wall(1, 2, 3, 6), ("spot", spot(1, 2)))
        self.assert_meeting(wall(0, 0, 0, 2), wall(0, 2, 0, 4), ("spot", spot(0, 2)))
        self.assert_meeting(wall(0, 5, 1, 5), wall(1, 5, 3, 5), ("spot", spot(1, 5)))

    def test_over_one_another_in_part(self):
        self.assert_meeting(wall(0, 0, 2, 4), wall(1, 2, 3, 6), ("stretch", wall(1, 2, 2, 4)))
        self.assert_meeting(wall(0, 0, 0, 3), wall(0, 2, 0, 4), ("stretch", wall(0, 2, 0, 3)))
        self.assert_meeting(wall(0, 5, 2, 5), wall(1, 5, 3, 5), ("stretch", wall(1, 5, 2, 5)))

    def test_over_one_another_in_whole(self):
        self.assert_meeting(wall(0, 0, 3, 6), wall(1, 2, 2, 4), ("stretch", wall(1, 2, 2, 4)))
        self.assert_meeting(wall(0, 0, 3, 6), wall(0, 0, 2, 4), ("stretch", wall(0, 0, 2, 4)))
        self.assert_meeting(wall(0, 0, 0, 9), wall(0, 5, 0, 9), ("stretch", wall(0, 5, 0, 9)))
        self.assert_meeting(wall(0, 1, 9, 1), wall(4, 1, 5, 1), ("stretch", wall(4, 1, 5, 1)))

    def test_the_same_wall_twice(self):
        for one in (wall(0, 0, 3, 6), wall(0, 0, 0, 1), wall(-1, Fraction(1, 3), 1, Fraction(1, 3))):
            self.assert_meeting(one, one, ("stretch", one))

    def test_each_pair_of_a_grid(self):
        walls = grid_walls(4, 3)
        for one in walls:
            for other in walls:
                self.assert_told(meeting(one, other), exact_meeting(one, other))

    def test_spots_told_lie_on_both(self):
        walls = [wall(x, THIRTY - 3 * x, Fraction(y, 7), Fraction(-THIRTY, 3 + y))
                 for x in range(4) for y in range(9, 13)]
        met = [(one, other, meeting(one, other)) for one in walls for other in walls if one != other]
        self.assertGreater(len([row for row in met if row[2] is not None]), 100)
        for one, other, told in met:
            self.assert_told(told, exact_meeting(one, other))
            if told is not None:
                self.assertEqual(told[0], "spot")
                self.assertIs(lies_on(one, told[1]) and lies_on(other, told[1]), True)

    def test_by_a_hair(self):
        level = wall(-THIRTY, 0, THIRTY, 0)
        hair = Fraction(1, THIRTY)
        self.assert_meeting(level, wall(1, hair, 2, 1), None)
        self.assert_meeting(level, wall(1, -hair, 2, 1), ("spot", spot(1 + hair / (1 + hair), 0)))
        self.assert_meeting(level, wall(1, 0, 2, 1), ("spot", spot(1, 0)))
        self.assert_meeting(wall(0, 0, 1, 0), wall(1 - hair, 0, 2, 0), ("stretch", wall(1 - hair, 0, 1, 0)))
        self.assert_meeting(wall(0, 0, 1, 0), wall(1 + hair, 0, 2, 0), None)


class Plots(HelperMixin, unittest.TestCase):
    def test_of_none_and_of_one(self):
        self.assert_told(plot_of([]), ())
        self.assert_told(plot_of([wall(0, 0, 1, 2)]), (wall(0, 0, 1, 2),))

    def test_walls_stay_in_their_order(self):
        for walls in (box(0, 0, 4, 4), list(reversed(box(0, 0, 4, 4))), walls_of([(5, 5, 6, 6), (0, 0, 1, 0)])):
            self.assert_told(plot_of(walls), tuple(walls))

    def test_common_ends_in_any_place(self):
        walls = walls_of([(0, 0, 2, 0), (0, 0, 1, 3), (2, 0, 1, 3), (2, 0, 4, 0), (2, 0, 2, -5), (1, 3, 1, 9)])
        self.assert_told(plot_of(walls), tuple(walls))

    def test_forty(self):
        self.assert_told(plot_of(ladder()), tuple(ladder()))
        apart = walls_of([(0, y, 3, y + 1) for y in range(40)])
        self.assert_told(plot_of(apart), tuple(apart))

    def test_more_than_forty(self):
        for many in (41, 42, 80, 120):
            walls = walls_of([(0, y, 3, y + 1) for y in range(many)])
            self.assert_told(self.assert_refused(TooMany, plot_of, walls).count, many)

    def test_more_than_forty_of_which_some_cross(self):
        walls = walls_of([(0, 9, 3, 0), (0, 0, 3, 9)]) + walls_of([(4, y, 5, y) for y in range(39)])
        self.assert_told(self.assert_refused(TooMany, plot_of, walls).count, 41)
        self.assert_told(self.assert_refused(TooMany, plot_of, [wall(0, 0, 1, 1)] * 50).count, 50)

    def assert_crossing(self, walls, number, other):
        refusal = self.assert_refused(Crossing, plot_of, walls)
        self.assert_told((refusal.wall, refusal.other), (number, other))

    def test_of_two_that_meet_otherwise(self):
        for one, other in ((wall(0, 0, 4, 4), wall(0, 4, 4, 0)), (wall(0, 0, 4, 4), wall(2, 2, 5, 0)),
                           (wall(0, 0, 0, 3), wall(0, 2, 0, 4)), (wall(0, 0, 3, 6), wall(1, 2, 2, 4)),
                           (wall(0, 0, 3, 6), wall(0, 0, 2, 4)), (wall(0, 0, 3, 6), wall(1, 2, 3, 6))):
            self.assert_crossing([one, other], 1, 0)
            self.assert_crossing([other, one], 1, 0)

    def test_the_same_wall_again(self):
        self.assert_crossing([wall(0, 0, 1, 1)] * 2, 1, 0)
        self.assert_crossing(box(0, 0, 4, 4) + [wall(0, 4, 4, 4)], 4, 1)

    def test_on_one_line_but_not_over_one_another(self):
        for walls in (walls_of([(0, 0, 1, 2), (2, 4, 3, 6)]), walls_of([(0, 0, 1, 2), (1, 2, 3, 6)])):
            self.assert_told(plot_of(walls), tuple(walls))

    def test_least_wall_then_least_other(self):
        level = walls_of([(0, y, 9, y) for y in range(4)])
        self.assert_crossing(level + [wall(1, -1, 1, 9)], 4, 0)
        self.assert_crossing(level + [wall(1, Fraction(3, 2), 1, 9)], 4, 2)
        self.assert_crossing(level + [wall(1, Fraction(3, 2), 1, 9), wall(2, -1, 2, 9)], 4, 2)
        self.assert_crossing([wall(1, -1, 1, 9)] + level, 1, 0)
        self.assert_crossing(level + [wall(1, 5, 2, 5), wall(3, 5, 3, 9), wall(0, 8, 9, 8), wall(5, 2, 5, 9)], 6, 5)

    def test_each_pair_of_a_grid(self):
        walls = grid_walls(3, 3)
        for one in walls:
            for other in walls:
                met = exact_meeting(one, other)
                if met is None or met[0] == "spot" and met[1] in one and met[1] in other:
                    self.assert_told(plot_of([one, other]), (one, other))
                else:
                    self.assert_crossing([one, other], 1, 0)


class Corners(HelperMixin, unittest.TestCase):
    def test_of_none_and_of_one(self):
        self.assert_told(corners_of(()), [])
        self.assert_told(corners_of((wall(2, 1, 0, 5),)), [spot(0, 5), spot(2, 1)])

    def test_shared_ones_stand_once(self):
        self.assert_told(corners_of(plot_of(box(0, 0, 4, 2))), [spot(0, 0), spot(0, 2), spot(4, 0), spot(4, 2)])

    def test_those_ahead_first(self):
        plot = plot_of(walls_of([(3, 1, 5, 0), (-1, 7, 0, 9), (3, -1, 3, 0), (Fraction(-1, 2), 0, Fraction(-1, 3), 0)]))
        awaited = [spot(-1, 7), spot(Fraction(-1, 2), 0), spot(Fraction(-1, 3), 0), spot(0, 9), spot(3, -1), spot(3, 0),
                   spot(3, 1), spot(5, 0)]
        self.assert_told(corners_of(plot), awaited)
        self.assert_told(corners_of(plot[::-1]), awaited)

    def test_of_forty_walls(self):
        plot = plot_of(walls_of([(7 * k % 40, -k, Fraction(7 * k % 40, 1) + Fraction(1, 2), k % 3 - k)
                                 for k in range(40)]))
        corners = corners_of(plot)
        self.assertEqual([exact_spot(one) for one in corners],
                         sorted({exact_spot(end) for one in plot for end in one}))
        self.assertEqual(len(corners), 80)
        self.assertEqual(len(corners_of(plot_of(ladder()))), 28)


class WhatHoldsEverywhere(HelperMixin, unittest.TestCase):
    """Promise 2, as far as it touches plots."""

    def test_of_kinds_under_the_told_ones_the_told_kinds_come(self):
        for one, other in ((wall(0, 0, 4, 4), wall(0, 4, 4, 0)), (wall(0, 0, 1, 2), wall(1, 2, 3, 6)),
                           (wall(0, 0, 2, 4), wall(1, 2, 3, 6)), (wall(0, 0, 4, 4), wall(2, 2, 5, 0))):
            self.assert_told(meeting(kinds_under(one), kinds_under(other)), exact_meeting(one, other))
        walls = box(0, 0, 4, Fraction(5, 3))
        self.assert_told(plot_of(kinds_under(walls)), tuple(walls))
        self.assert_told(corners_of(kinds_under(tuple(walls))), corners_of(tuple(walls)))

    def test_nothing_that_is_handed_in_is_changed(self):
        for walls in (box(0, 0, 4, 4), walls_of([(0, 0, 4, 4), (0, 4, 4, 0)]), [wall(0, 0, 1, 1)] * 41):
            before = list(walls)
            try:
                plot_of(walls)
            except (Crossing, TooMany):
                pass
            self.assertEqual(walls, before)

    def test_a_plot_stays_as_it_is_where_the_list_is_changed(self):
        walls = box(0, 0, 4, 4)
        plot = plot_of(walls)
        del walls[0]
        self.assert_told(plot, tuple(box(0, 0, 4, 4)))

    def test_corners_are_the_askers_own(self):
        plot = plot_of(box(0, 0, 4, 4))
        self.assert_own(lambda: corners_of(plot), lambda told: told.reverse())

    def test_great_numbers_that_were_told(self):
        # Of four spots about another one the walls between opposite ones cross; four such crossings lie about one.
        quarters = ((-1, -1), (1, -1), (1, 1), (-1, 1))
        hairs = iter(Fraction(THIRTY - 3 * k, 10 ** 29 + 7 * k) / 100 for k in range(32))
        crossings = []
        for x, y in quarters:
            spots = [spot(3 * x + right + next(hairs), 3 * y + up + next(hairs)) for right, up in quarters]
            crossings.append(self.crossing(spots))
        told = self.crossing(crossings)
        figures = len(str(told[0][1]))
        self.assertTrue(900 < figures < 4000, figures)
        walls = [wall_of(told, crossing) for crossing in crossings]
        self.assert_told(plot_of(walls), tuple(walls))
        self.assertEqual([exact_spot(one) for one in corners_of(plot_of(walls))],
                         sorted(exact_spot(one) for one in crossings + [told]))

    def crossing(self, spots):
        one, other = wall_of(spots[0], spots[2]), wall_of(spots[1], spots[3])
        told = meeting(one, other)
        self.assert_told(told, exact_meeting(one, other))
        self.assertEqual(told[0], "spot")
        return told[1]


if __name__ == "__main__":
    unittest.main()
