"""Promises 23, 24 and 25: walls that come and go, and the lands of a ground.

And of promise 3: a wall put in splits one land at most, one taken out joins two at most; all other lands keep their
numbers, and after each row of deeds the ground tells what its plot, taken by itself, tells.
"""

import unittest
from fractions import Fraction
from random import Random

from helper import (THIRTY, WAYS, HelperMixin, Patches, box, exact_meeting, exact_spot, kinds_under, ladder, left_of,
                    line_spots, many_plots, random_walls, sample_plots, spot, wall, walls_of)
from spotlook.errors import Absent, Crossing, TooMany
from spotlook.ground import Ground
from spotlook.lands import lands_of, lands_of_faces
from spotlook.parting import parted
from spotlook.plain import look_plainly
from spotlook.plots import corners_of, plot_of


def ground_of(walls):
    """A ground into which these walls were put."""
    ground = Ground()
    for one in walls:
        ground.put(one)
    return ground


def all_told(ground):
    """All that a ground tells but of spots, and of its middle."""
    return (ground.walls(), ground.as_plot(), ground.lands(), [ground.walls_at(land) for land in ground.lands()],
            ground.look(spot(1, 1)))


def meets_otherwise(one, other):
    """Whether two walls meet otherwise than in one spot that is an end of both, by Python's own fractions."""
    met = exact_meeting(one, other)
    return met is not None and (met[0] == "stretch" or met[1] not in one or met[1] not in other)


class AtFirst(HelperMixin, unittest.TestCase):
    def test_no_walls_and_the_open_land(self):
        ground = Ground()
        self.assert_told(all_told(ground), ([], (), [0], [[]], ("land", 0)))

    def test_each_ground_has_its_own(self):
        one, other = Ground(), Ground()
        one.put(wall(0, 0, 1, 1))
        self.assert_told(other.walls(), [])
        self.assert_told(other.put(wall(5, 5, 6, 6)), (0, None))


class Put(HelperMixin, unittest.TestCase):
    def test_a_box_wall_by_wall(self):
        ground = Ground()
        told = [ground.put(one) for one in box(0, 0, 4, 4)]
        self.assert_told(told, [(0, None), (1, None), (2, None), (3, (0, 1))])
        self.assert_told(ground.lands(), [0, 1])
        self.assert_told(ground.look(spot(2, 2)), ("land", 1))
        self.assert_told(ground.look(spot(9, 9)), ("land", 0))

    def test_that_splits_the_open_land_which_then_lies_at_its_left_or_right(self):
        for last in range(4):
            walls = box(0, 0, 4, 4)
            walls.append(walls.pop(last))
            ground = ground_of(walls[:3])
            # The open land lies at the left of the upper wall and of the left one, and at the right of the others.
            self.assert_told(ground.put(walls[3]), (3, (0, 1)))
            self.assert_told(ground.look(spot(2, 2)), ("land", 1))
            self.assert_told(ground.look(spot(2, 9)), ("land", 0))
            self.assert_told(ground.look(spot(-1, 2)), ("land", 0))

    def test_that_splits_a_land_shut_in_the_part_at_its_left_is_new(self):
        for row, left, right in (((0, 0, 4, 4), spot(1, 3), spot(3, 1)), ((0, 4, 4, 0), spot(3, 3), spot(1, 1))):
            ground = ground_of(box(0, 0, 4, 4))
            self.assert_told(ground.put(wall(*row)), (4, (1, 2)))
            self.assert_told((ground.look(left), ground.look(right)), (("land", 2), ("land", 1)))
        # Upright: at its left x is less.
        rows = [(0, 0, 2, 0), (2, 0, 4, 0), (0, 4, 2, 4), (2, 4, 4, 4), (0, 0, 0, 4), (4, 0, 4, 4)]
        ground = ground_of(walls_of(rows))
        self.assert_told(ground.put(wall(2, 0, 2, 4)), (6, (1, 2)))
        self.assert_told((ground.look(spot(1, 1)), ground.look(spot(3, 1))), (("land", 2), ("land", 1)))

    def test_that_splits_nothing(self):
        ground = ground_of(box(0, 0, 9, 9))
        # Hanging freely within and outside, at a corner within and outside, from what hangs to what stands.
        rows = [(2, 2, 3, 3), (20, 0, 21, 0), (0, 0, 1, 5), (9, 9, 12, 9), (3, 3, 9, 0), (12, 9, 20, 0), (7, 7, 7, 8)]
        told = [ground.put(wall(*row)) for row in rows]
        self.assert_told(told, [(number, None) for number in range(4, 11)])
        self.assert_told(ground.lands(), [0, 1])

    def test_a_box_within_a_box_that_is_then_joined_by_two_walls(self):
        ground = ground_of(box(0, 0, 9, 9) + box(3, 3, 6, 6))
        self.assert_told(ground.lands(), [0, 1, 2])
        self.assert_told(ground.put(wall(0, 0, 3, 3)), (8, None))
        # Now the land between both is split: at the left of the last one lies its upper part.
        self.assert_told(ground.put(wall(6, 6, 9, 9)), (9, (1, 3)))
        self.assert_told([ground.look(spot(x, y)) for x, y in ((1, 8), (8, 1), (5, 4))],
                         [("land", 3), ("land", 1), ("land", 2)])

    def test_round_a_land_that_has_a_number_already(self):
        ground = ground_of(box(3, 3, 6, 6) + box(0, 0, 9, 9))
        self.assert_told([ground.look(spot(x, x)) for x in (5, 1, -1)], [("land", 1), ("land", 2), ("land", 0)])
        # The joined land keeps the inner one's number, and then the inner one has a new one; not so in the plot.
        self.assert_told(ground.take(0), (1, 2))
        self.assert_told(ground.put(wall(3, 3, 6, 3)), (8, (1, 3)))
        self.assert_told([ground.look(spot(x, x)) for x in (5, 1, -1)], [("land", 3), ("land", 1), ("land", 0)])
        self.assertEqual([look_plainly(ground.as_plot(), spot(x, x)) for x in (5, 1, -1)],
                         [("land", 1), ("land", 2), ("land", 0)])

    def test_what_lies_within_a_land_that_is_split_is_of_its_part(self):
        ground = ground_of(box(0, 0, 20, 20) + box(2, 12, 4, 14) + box(15, 2, 17, 4))
        self.assert_told(ground.walls_at(1), [0, 1, 2, 3, 4, 5, 6, 7, 8, 9, 10, 11])
        self.assert_told(ground.put(wall(0, 0, 20, 20)), (12, (1, 4)))
        self.assert_told(ground.walls_at(4), [1, 2, 4, 5, 6, 7, 12])
        self.assert_told(ground.walls_at(1), [0, 3, 8, 9, 10, 11, 12])
        self.assert_told(ground.walls_at(2), [4, 5, 6, 7])

    def test_the_forty_first(self):
        ground = ground_of(ladder())
        before = all_told(ground)
        for one in (wall(50, 50, 51, 51), wall(0, 0, 0, 1), wall(-1, -1, 99, 99)):
            self.assert_told(self.assert_refused(TooMany, ground.put, one).count, 41)
        self.assert_told(all_told(ground), before)
        ground.take(7)
        self.assert_refused(Crossing, ground.put, wall(-1, -1, 99, 99))
        self.assert_told(ground.put(wall(50, 50, 51, 51)), (40, None))
        self.assert_told(self.assert_refused(TooMany, ground.put, wall(0, 0, 0, 1)).count, 41)

    def test_that_meets_others_otherwise(self):
        ground = ground_of(walls_of([(0, 0, 4, 0), (0, 2, 4, 2), (0, 4, 4, 4), (0, 6, 4, 6)]))
        ground.take(0)
        before = all_told(ground)
        for row, other in (((2, 1, 2, 5), 1), ((2, 5, 2, 7), 3), ((0, 4, 4, 4), 2), ((1, 4, 2, 4), 2),
                           ((3, 4, 9, 4), 2), ((-1, 4, 5, 4), 2), ((2, 2, 2, 9), 1), ((2, 3, 2, 4), 2),
                           ((-1, 6, 1, 6), 3), ((0, 5, 4, 7), 3), ((0, 4, 5, 4), 2)):
            refusal = self.assert_refused(Crossing, ground.put, wall(*row))
            self.assert_told((refusal.wall, refusal.other), (None, other))
        self.assert_told(all_told(ground), before)
        self.assert_told(ground.put(wall(0, 6, 4, 4)), (4, None))

    def test_the_same_wall_again(self):
        ground = ground_of(box(0, 0, 4, 4))
        for number, one in enumerate(box(0, 0, 4, 4)):
            refusal = self.assert_refused(Crossing, ground.put, one)
            self.assert_told((refusal.wall, refusal.other), (None, number))

    def test_the_other_is_told_by_its_number_not_its_place(self):
        ground = ground_of(walls_of([(x, 0, x, 9) for x in range(9)]))
        for number in (0, 2, 3, 6):
            ground.take(number)
        refusal = self.assert_refused(Crossing, ground.put, wall(3, 5, 20, 5))
        self.assert_told((refusal.wall, refusal.other), (None, 4))
        refusal = self.assert_refused(Crossing, ground.put, wall(5, 5, 20, 6))
        self.assert_told(refusal.other, 5)
        refusal = self.assert_refused(Crossing, ground.put, wall(7, 0, 8, 9 + Fraction(-1, THIRTY)))
        self.assert_told(refusal.other, 8)

    def test_what_is_refused_takes_no_number(self):
        ground = ground_of(walls_of([(0, 0, 4, 0)]))
        for each in range(3):
            self.assert_refused(Crossing, ground.put, wall(2, -1, 2, 1))
            self.assert_refused(Absent, ground.take, 1)
        self.assert_told(ground.put(wall(0, 0, 2, 2)), (1, None))
        self.assert_told(ground.put(wall(2, 2, 4, 0)), (2, (0, 1)))


class Take(HelperMixin, unittest.TestCase):
    def test_that_joins_a_land_with_the_open_one(self):
        for number in range(4):
            ground = ground_of(box(0, 0, 4, 4))
            self.assert_told(ground.take(number), (0, 1))
            self.assert_told(ground.lands(), [0])
            self.assert_told(ground.look(spot(2, 2)), ("land", 0))
            self.assert_told([at for at, one in ground.walls()], [at for at in range(4) if at != number])

    def test_that_joins_two_lands_shut_in(self):
        ground = ground_of(box(0, 0, 4, 4) + walls_of([(0, 0, 4, 4)]))
        self.assert_told(ground.lands(), [0, 1, 2])
        self.assert_told(ground.take(4), (1, 2))
        self.assert_told((ground.lands(), ground.look(spot(1, 3)), ground.look(spot(3, 1))),
                         ([0, 1], ("land", 1), ("land", 1)))

    def test_the_lesser_number_is_kept_on_whatever_side_it_lies(self):
        walls = box(0, 0, 4, 4) + walls_of([(0, 0, 4, 4)])
        for last in (0, 3):
            # Put in as the last, a wall at the right of the slanting one gives the part below the new number.
            ground = ground_of([one for at, one in enumerate(walls) if at != last] + [walls[last]])
            self.assert_told((ground.look(spot(1, 3)), ground.look(spot(3, 1))), (("land", 1), ("land", 2)))
            slanting = [number for number, one in ground.walls() if one == wall(0, 0, 4, 4)][0]
            self.assert_told(ground.take(slanting), (1, 2))
            self.assert_told(ground.look(spot(3, 1)), ("land", 1))

    def test_that_joins_nothing(self):
        ground = ground_of(box(0, 0, 9, 9) + walls_of([(2, 2, 3, 3), (0, 0, 2, 2), (20, 20, 21, 21)]))
        self.assert_told([ground.take(number) for number in (4, 5, 6)], [None, None, None])
        self.assert_told(ground.lands(), [0, 1])

    def test_what_lies_within_goes_over_to_the_joined_land(self):
        ground = ground_of(box(0, 0, 20, 20) + box(5, 5, 8, 8) + walls_of([(1, 1, 2, 2)]))
        self.assert_told(ground.take(2), (0, 1))
        self.assert_told(ground.walls_at(0), [0, 1, 3, 4, 5, 6, 7, 8])
        self.assert_told(ground.walls_at(2), [4, 5, 6, 7])
        self.assert_told(ground.lands(), [0, 2])

    def test_absent(self):
        ground = ground_of(box(0, 0, 4, 4))
        ground.take(1)
        before = all_told(ground)
        for number in (1, 4, -1, -4, 40, THIRTY, -THIRTY):
            self.assert_told(self.assert_refused(Absent, ground.take, number).number, number)
        self.assert_told(self.assert_refused(Absent, Ground().take, 0).number, 0)
        self.assert_told(all_told(ground), before)

    def test_twice(self):
        ground = ground_of(box(0, 0, 4, 4))
        ground.take(2)
        self.assert_told(self.assert_refused(Absent, ground.take, 2).number, 2)


class NumbersAreGivenOnce(HelperMixin, unittest.TestCase):
    def test_of_walls(self):
        ground = ground_of(box(0, 0, 4, 4))
        ground.take(3)
        self.assert_told(ground.put(wall(4, 0, 4, 4)), (4, (0, 2)))
        for number in (0, 1, 2, 4):
            ground.take(number)
        self.assert_told(ground.put(wall(0, 0, 4, 0))[0], 5)

    def test_of_lands(self):
        ground = ground_of(box(0, 0, 4, 4))
        for time in range(1, 6):
            self.assert_told(ground.take(3 + time - 1), (0, time))
            self.assert_told(ground.put(wall(4, 0, 4, 4)), (3 + time, (0, time + 1)))
        self.assert_told(ground.lands(), [0, 6])
        self.assert_told(ground.walls_at(6), [0, 1, 2, 8])
        for gone in range(1, 6):
            self.assert_told(self.assert_refused(Absent, ground.walls_at, gone).number, gone)

    def test_put_in_and_taken_out_again(self):
        ground = ground_of(box(0, 0, 4, 4))
        before = all_told(ground)
        self.assert_told(ground.put(wall(0, 0, 4, 4)), (4, (1, 2)))
        self.assert_told(ground.take(4), (1, 2))
        self.assert_told(all_told(ground), before)
        self.assert_told(ground.put(wall(0, 0, 4, 4)), (5, (1, 3)))

    def test_a_number_passes_to_the_other_part(self):
        # The part at the left is new; when another wall is put in and the first one is taken out, that number is gone.
        ground = ground_of(box(0, 0, 4, 4) + walls_of([(0, 0, 4, 4)]))
        self.assert_told(ground.take(0), (0, 1))
        self.assert_told(ground.look(spot(3, 1)), ("land", 0))
        self.assert_told(ground.put(wall(0, 0, 4, 0)), (5, (0, 3)))
        self.assert_told(ground.lands(), [0, 2, 3])
        self.assert_told(ground.take(4), (2, 3))


class WhatIsTold(HelperMixin, unittest.TestCase):
    def test_walls_and_plot(self):
        rows = [(5, 5, 6, 6), (0, 0, 1, 0), (3, 3, 2, 2)]
        ground = ground_of(walls_of(rows))
        self.assert_told(ground.walls(), list(enumerate(walls_of(rows))))
        self.assert_told(ground.as_plot(), plot_of(walls_of(rows)))
        ground.take(1)
        ground.put(wall(0, 0, 1, 0))
        self.assert_told(ground.walls(), [(0, wall(5, 5, 6, 6)), (2, wall(2, 2, 3, 3)), (3, wall(0, 0, 1, 0))])
        self.assert_told(ground.as_plot(), plot_of(walls_of([rows[0], rows[2], rows[1]])))

    def test_walls_at(self):
        ground = ground_of(box(0, 0, 4, 4) + walls_of([(1, 1, 2, 2), (9, 9, 8, 8), (4, 0, 6, 0), (6, 0, 4, 4)]))
        self.assert_told(ground.lands(), [0, 1, 2])
        self.assert_told(ground.walls_at(0), [0, 1, 2, 5, 6, 7])
        self.assert_told(ground.walls_at(1), [0, 1, 2, 3, 4])
        self.assert_told(ground.walls_at(2), [3, 6, 7])

    def test_walls_at_a_land_that_is_none(self):
        ground = ground_of(box(0, 0, 4, 4))
        for land in (2, -1, 3, THIRTY, -THIRTY):
            self.assert_told(self.assert_refused(Absent, ground.walls_at, land).number, land)
        self.assert_told(self.assert_refused(Absent, Ground().walls_at, 1).number, 1)

    def test_look(self):
        ground = ground_of(walls_of([(-9, 0, -8, 0)]) + box(0, 0, 4, 4) + walls_of([(0, 0, 4, 4)]))
        ground.take(0)
        self.assert_told(ground.look(spot(2, 0)), ("wall", 1))
        self.assert_told(ground.look(spot(4, 2)), ("wall", 4))
        self.assert_told(ground.look(spot(2, 2)), ("wall", 5))
        # Corners have the numbers of the plot.
        self.assert_told([ground.look(spot(x, y)) for x, y in ((0, 0), (0, 4), (4, 0), (4, 4))],
                         [("corner", 0), ("corner", 1), ("corner", 2), ("corner", 3)])
        self.assert_told([ground.look(spot(x, y)) for x, y in ((1, 3), (3, 1), (5, 5))],
                         [("land", 2), ("land", 1), ("land", 0)])
        self.assert_told(ground.look(spot(-9, 0)), ("land", 0))

    def test_the_walls_of_many_plots(self):
        for plot in many_plots():
            ground = Ground()
            for number, one in enumerate(plot):
                told = ground.put(one)
                self.assert_told(told[0], number)
                self.assertEqual(told[1] is None, len(lands_of(plot[:number + 1])) == len(lands_of(plot[:number])))
            self.assert_told(ground.as_plot(), plot)
            self.assert_told(ground.lands(), list(range(len(lands_of(plot)))))


class Model:
    """A ground beside what it must tell, found from the lands of spots that lie at the left of each face there was."""

    def __init__(self, test, spots):
        self.test = test
        self.ground = Ground()
        self.spots = spots
        self.given, self.lands_given = 0, 1

    def looks(self):
        return [self.ground.look(one) for one in self.spots]

    def put(self, one):
        """Puts a wall in, or sees it refused."""
        ground, test = self.ground, self.test
        otherwise = [number for number, other in ground.walls() if meets_otherwise(one, other)]
        before = (self.looks(), all_told(ground))
        if otherwise:
            refusal = test.assert_refused(Crossing, ground.put, one)
            test.assert_told((refusal.wall, refusal.other), (None, otherwise[0]))
            test.assert_told((self.looks(), all_told(ground)), before)
            return
        number, change = ground.put(one)
        test.assert_told(number, self.given)
        self.given += 1
        plot = ground.as_plot()
        left, right = [ground.look(spot(*left_of(plot, 2 * len(plot) - 2 + side))) for side in range(2)]
        patches = Patches(plot)
        parts = [patches.number[patches.patch_at(*left_of(plot, 2 * len(plot) - 2 + side))] for side in range(2)]
        if change is None:
            test.assertEqual((left, parts[0]), (right, parts[1]))
        else:
            kept, new = change
            test.assertEqual(new, self.lands_given)
            self.lands_given += 1
            test.assertNotEqual(parts[0], parts[1])
            awaited = [("land", kept), ("land", new)] if parts[0] == 0 else [("land", new), ("land", kept)]
            test.assert_told([left, right], awaited)
        self.compare(before[0], [] if change is None else [(change[0], change[1])])

    def take(self, number):
        ground, test = self.ground, self.test
        plot = ground.as_plot()
        at = [each for each, one in ground.walls()].index(number)
        faces = sorted(ground.look(spot(*left_of(plot, 2 * at + side)))[1] for side in range(2))
        before = self.looks()
        change = ground.take(number)
        test.assert_told(change, None if faces[0] == faces[1] else tuple(faces))
        self.compare(before, [] if change is None else [(change[1], change[0])])

    def compare(self, before, became):
        """Each spot is of the land it was of, but where one land may have become another."""
        for one, was, now in zip(self.spots, before, self.looks()):
            if was[0] == now[0] == "land" and was != now:
                self.test.assertIn((was[1], now[1]), became)
        self.compare_with_plot()

    def compare_with_plot(self):
        """The ground tells what its plot tells, by a number of its own for each land."""
        ground, test = self.ground, self.test
        plot, numbers = ground.as_plot(), [number for number, one in ground.walls()]
        test.assert_told(numbers, sorted(numbers))
        test.assert_told(plot_of(list(plot)), plot)
        names = {0: 0}
        for face, land in enumerate(lands_of_faces(plot)):
            names.setdefault(land, ground.look(spot(*left_of(plot, face)))[1])
        test.assert_told(ground.lands(), sorted(names.values()))
        test.assertEqual(len(names), len(set(names.values())))
        for land, name in names.items():
            at = [numbers[k] for k in range(len(plot)) if land in lands_of_faces(plot)[2 * k:2 * k + 2]]
            test.assert_told(ground.walls_at(name), at)
        for one in corners_of(plot)[::3] + line_spots(plot)[::5] + self.spots:
            word, number = look_plainly(plot, one)
            awaited = {"corner": number, "wall": numbers[number] if word == "wall" else None,
                       "land": names.get(number)}[word]
            test.assert_told(ground.look(one), (word, awaited))


class RowsOfDeeds(HelperMixin, unittest.TestCase):
    def go(self, seed, walls, many):
        """Puts in and takes out by chance."""
        chance = Random(seed)
        model = Model(self, [spot(Fraction(chance.randrange(-7, 71), 13), Fraction(chance.randrange(-7, 71), 11))
                             for each in range(25)])
        changes = 0
        for deed in range(many):
            numbers = [number for number, one in model.ground.walls()]
            before = model.ground.lands()
            if numbers and (chance.randrange(3) == 0 or len(numbers) == 40):
                model.take(chance.choice(numbers))
            else:
                model.put(chance.choice(walls))
            after = model.ground.lands()
            changes += before != after
            self.assertLessEqual(abs(len(before) - len(after)), 1)
            self.assertLessEqual(len(set(before) ^ set(after)), 1)
        return changes

    def test_walls_of_a_grid(self):
        rows = [(x, y, x + 1, y) for x in range(3) for y in range(4)]
        rows += [(y, x, y, x + 1) for x, y, *end in rows]
        self.assertGreater(sum(self.go(seed, walls_of(rows), 90) for seed in range(2)), 10)

    def test_boxes_within_boxes(self):
        walls = [one for k in range(5) for one in box(k, k, 9 - k, 9 - k)]
        self.assertGreater(self.go(5, walls + walls_of([(k, k, k + 1, k + 1) for k in range(9)]), 120), 10)

    def test_walls_that_meet_in_any_way(self):
        changes = [self.go(seed, random_walls(Random(seed), 40, range(3)), 90) for seed in range(4)]
        self.assertGreater(sum(changes), 10)

    def test_all_walls_of_a_plot_in_and_out(self):
        for name in ("within", "two within", "corner within", "at a corner", "great"):
            model = Model(self, [spot(Fraction(x, 7), Fraction(3 * x + 1, 11)) for x in range(-3, 40, 3)])
            walls = list(sample_plots()[name])
            Random(len(walls)).shuffle(walls)
            for one in walls:
                model.put(one)
            for number in range(0, len(walls), 2):
                model.take(number)
            for one in walls[::2]:
                model.put(one)
            for number, one in model.ground.walls():
                model.take(number)
            self.assert_told(all_told(model.ground), ([], (), [0], [[]], ("land", 0)))


class WhatHoldsEverywhere(HelperMixin, unittest.TestCase):
    """Promise 2, as far as it touches grounds."""

    def test_what_is_told_is_the_askers_own(self):
        ground = ground_of(box(0, 0, 4, 4))
        before = all_told(ground)
        for ask in (ground.walls, ground.lands, lambda: ground.walls_at(0)):
            self.assert_own(ask, lambda told: told.pop())
            self.assert_own(ask, lambda told: told.clear())
            self.assert_own(ask, lambda told: told.append(7))
        self.assert_told(all_told(ground), before)
        self.assert_told(ground.put(wall(0, 0, 4, 4)), (4, (1, 2)))

    def test_what_was_told_stays_while_the_ground_goes_on(self):
        ground = ground_of(box(0, 0, 4, 4))
        told = all_told(ground)
        kept = (list(told[0]), told[1], list(told[2]), [list(row) for row in told[3]], told[4])
        ground.put(wall(0, 0, 4, 4))
        ground.take(0)
        self.assert_told(told, kept)

    def test_ways_that_are_kept(self):
        ground = ground_of(box(0, 0, 4, 4))
        ways = [kind(ground.as_plot()) for kind in WAYS]
        looks = [way.looks(spot(1, 3)) for way in ways]
        ground.put(wall(0, 0, 4, 4))
        ground.take(1)
        self.assert_told([way.look(spot(1, 3)) for way in ways], [("land", 1)] * 3)
        self.assert_told([way.looks(spot(1, 3)) for way in ways], looks)
        self.assert_told([way.plot for way in ways], [plot_of(box(0, 0, 4, 4))] * 3)
        self.assert_told(ground.look(spot(1, 3)), ("land", 0))

    def test_of_kinds_under_the_told_ones_the_told_kinds_come(self):
        ground = Ground()
        told = [ground.put(kinds_under(one)) for one in box(0, 0, 4, Fraction(9, 2))]
        self.assert_told(told, [(0, None), (1, None), (2, None), (3, (0, 1))])
        self.assert_told(ground.as_plot(), plot_of(box(0, 0, 4, Fraction(9, 2))))
        self.assert_told(ground.look(kinds_under(spot(1, 1))), ("land", 1))
        self.assert_told(ground.walls_at(kinds_under(1)), [0, 1, 2, 3])
        self.assert_told(self.assert_refused(Absent, ground.walls_at, kinds_under(7)).number, 7)
        self.assert_told(self.assert_refused(Absent, ground.take, kinds_under(9)).number, 9)
        self.assert_told(ground.take(kinds_under(2)), (0, 1))

    def test_great_numbers_that_were_told(self):
        plot = parted(walls_of([(-THIRTY, Fraction(1, THIRTY - 2), THIRTY, Fraction(THIRTY, 7)),
                                (0, -THIRTY, 1, THIRTY), (-3, Fraction(THIRTY * 7, 8), Fraction(10 ** 29, 3), -1)]))
        ground = ground_of(plot)
        self.assert_told(ground.as_plot(), plot)
        self.assert_told(ground.lands(), [0, 1])
        x, y = exact_spot(corners_of(plot)[3])
        one = spot(x, y + Fraction(1, THIRTY ** 9))
        self.assert_told(ground.look(one), look_plainly(plot, one))


if __name__ == "__main__":
    unittest.main()
