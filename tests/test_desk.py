"""Promise 32: the desk and its rows."""

import unittest
from fractions import Fraction
from random import Random

from helper import (THIRTY, WAYS, HelperMixin, box, kinds_under, ladder, many_plots, sample_plots, spot, spots_of,
                    walls_of)
from spotlook.beside import land_area
from spotlook.desk import Desk
from spotlook.errors import Absent, Crossing, NoRow, NoWall, SpotError, TooMany
from spotlook.ground import Ground
from spotlook.plain import look_plainly
from spotlook.plots import plot_of
from spotlook.texts import read_plot, show_fraction, show_plot

KINDS = dict(zip(("steps", "layers", "cuts"), WAYS))
NO_FRACTIONS = ("", "-", "+1", "-0", "01", "-01", "1.5", "a", "1/", "/2", "1/1", "0/3", "2/4", "1/0", "1/-2", "1/02",
                "9" * 31, "1/" + "9" * 31, "-" + "9" * 31, "1\n", "\t1")
NO_NUMBERS = ("", "-", "-1", "-0", "00", "01", "+1", "1/2", "2/1", "a", "1.0", "0x0", "9" * 31, "0\n", "\t0", "1_0")


def numbers_of(one):
    """The words of a spot."""
    return " ".join(show_fraction(part) for part in one)


def desk_of(walls):
    """A desk that was told to put in these walls."""
    desk = Desk()
    for first, second in walls:
        desk.say(f"put {numbers_of(first)} {numbers_of(second)}")
    return desk


def all_said(desk):
    """What a desk answers to all that it can be asked without a number."""
    rows = ["walls", "lands", "text", "ask 1 1", "at 0"] + [f"most {kind}" for kind in KINDS]
    return [desk.say(row) for row in rows + [f"find {kind} 1 1" for kind in KINDS]]


class AtFirst(HelperMixin, unittest.TestCase):
    def test_what_is_said(self):
        self.assert_told(all_said(Desk()), ["0", "0", "", "land 0", ""] + ["0"] * 3 + ["land 0 0"] * 3)

    def test_each_desk_has_its_own_ground(self):
        one, other = Desk(), Desk()
        one.say("put 0 0 1 1")
        self.assert_told((one.say("walls"), other.say("walls")), ("1", "0"))


class Put(HelperMixin, unittest.TestCase):
    def test_a_triangle(self):
        desk = Desk()
        self.assert_told([desk.say(row) for row in ("put 0 0 4 0", "put 0 0 2 4", "put 2 4 4 0")], ["0", "1", "2 0 1"])

    def test_ends_in_any_order(self):
        for rows in (("put 0 0 4 0", "put 2 4 0 0", "put 4 0 2 4"), ("put 4 0 0 0", "put 0 0 2 4", "put 2 4 4 0")):
            desk = Desk()
            self.assert_told([desk.say(row) for row in rows], ["0", "1", "2 0 1"])
            self.assert_told(desk.say("text"), "wall 0 0 4 0\nwall 0 0 2 4\nwall 2 4 4 0")
        desk = Desk()
        desk.say("put 1/2 7/3 1/2 -7/3")
        self.assert_told(desk.say("text"), "wall 1/2 -7/3 1/2 7/3")

    def test_numbers_of_thirty_figures(self):
        desk = Desk()
        row = f"{'9' * 30} -1/{'9' * 30} -{'9' * 30}/1{'0' * 29} 0"
        self.assert_told(desk.say(f"put {row}"), "0")
        first, second = read_plot(desk.say("text"))[0]
        self.assert_told((first, second), (((-THIRTY, 10 ** 29), (0, 1)), ((THIRTY, 1), (-1, THIRTY))))

    def test_no_wall(self):
        desk = desk_of(ladder())
        for row in ("put 0 0 0 0", "put 1/2 1/2 1/2 1/2", "put 99 99 99 99"):
            # Also where there are forty walls, and the spot lies on one.
            self.assert_refused(NoWall, desk.say, row)
            self.assert_refused(NoWall, Desk().say, row)
        self.assert_told(desk.say("walls"), "40")

    def test_too_many(self):
        desk = desk_of(ladder())
        before = all_said(desk)
        for row in ("put 50 50 51 51", "put 0 0 0 1", "put -1 -1 99 99"):
            self.assert_told(self.assert_refused(TooMany, desk.say, row).count, 41)
        self.assert_told(all_said(desk), before)

    def test_crossing(self):
        desk = desk_of(walls_of([(0, 0, 4, 0), (0, 2, 4, 2), (0, 4, 4, 4)]))
        desk.say("take 0")
        before = all_said(desk)
        for row, other in (("put 1 3 1 9", 2), ("put 1 9 1 -9", 1), ("put 4 2 0 2", 1), ("put 2 4 2 5", 2)):
            refusal = self.assert_refused(Crossing, desk.say, row)
            self.assert_told((refusal.wall, refusal.other), (None, other))
        self.assert_told(all_said(desk), before)
        self.assert_told(desk.say("put 1 -9 1 1"), "3")


class Take(HelperMixin, unittest.TestCase):
    def test_that_joins_nothing(self):
        desk = desk_of(walls_of([(0, 0, 4, 0), (0, 0, 2, 4)]))
        self.assert_told((desk.say("take 0"), desk.say("take 1"), desk.say("walls")), ("ok", "ok", "0"))

    def test_that_joins_two_lands(self):
        desk = desk_of(box(0, 0, 4, 4) + walls_of([(0, 0, 4, 4)]))
        self.assert_told((desk.say("take 4"), desk.say("lands")), ("1 2", "0 1"))
        self.assert_told((desk.say("take 0"), desk.say("lands")), ("0 1", "0"))

    def test_absent(self):
        desk = desk_of(box(0, 0, 4, 4))
        desk.say("take 2")
        before = all_said(desk)
        for number in (2, 4, 40, THIRTY):
            self.assert_told(self.assert_refused(Absent, desk.say, f"take {number}").number, number)
        self.assert_told(all_said(desk), before)
        self.assert_told(desk.say("put 0 0 0 4"), "4 0 2")


class AskFindMost(HelperMixin, unittest.TestCase):
    def test_ask_by_the_grounds_numbers(self):
        desk = desk_of(walls_of([(-9, 0, -8, 0)]) + box(0, 0, 4, 4))
        desk.say("take 0")
        desk.say("take 2")
        desk.say("put 4 4 0 4")
        self.assert_told([desk.say(row) for row in ("ask 2 2", "ask 9 9", "ask 2 4", "ask 2 0", "ask 0 0", "ask 4 4")],
                         ["land 2", "land 0", "wall 5", "wall 1", "corner 0", "corner 3"])

    def test_find_by_the_plots_numbers(self):
        desk = desk_of(walls_of([(-9, 0, -8, 0)]) + box(0, 0, 4, 4))
        desk.say("take 0")
        desk.say("take 2")
        desk.say("put 4 4 0 4")
        for kind in KINDS:
            told = [desk.say(f"find {kind} {x} {y}") for x, y in ((2, 2), (9, 9), (2, 4), (2, 0), (4, 4))]
            self.assert_told([row.rsplit(" ", 1)[0] for row in told],
                             ["land 1", "land 0", "wall 3", "wall 0", "corner 3"])

    def test_find_and_most_by_hand(self):
        desk = desk_of(box(0, 0, 4, 4))
        self.assert_told([desk.say(f"find {kind} 2 2") for kind in KINDS], ["land 1 4", "land 1 7", "land 1 4"])
        self.assert_told([desk.say(f"find {kind} 4 0") for kind in KINDS], ["corner 2 1", "corner 2 4", "corner 2 1"])
        self.assert_told([desk.say(f"most {kind}") for kind in KINDS], ["5", "8", "5"])

    def test_as_ways_tell(self):
        for plot in many_plots()[::3]:
            desk = desk_of(plot)
            self.assert_told(desk.say("text"), show_plot(plot))
            for name, kind in KINDS.items():
                way = kind(plot)
                self.assert_told(desk.say(f"most {name}"), str(way.most()))
                for one in spots_of(plot)[::25]:
                    word, number = look_plainly(plot, one)
                    row = f"find {name} {numbers_of(one)}"
                    if max(map(len, row.replace("/", " ").replace("-", "").split())) <= 30:
                        self.assert_told(desk.say(row), f"{word} {number} {len(way.looks(one))}")


class WallsLandsAtAreaText(HelperMixin, unittest.TestCase):
    def test_behind_deeds(self):
        desk = desk_of(box(0, 0, 20, 20) + box(5, 5, 8, 8) + walls_of([(0, 0, 5, 5)]))
        self.assert_told([desk.say(row) for row in ("walls", "lands")], ["9", "0 1 2"])
        self.assert_told([desk.say(f"at {land}") for land in range(3)],
                         ["0 1 2 3", "0 1 2 3 4 5 6 7 8", "4 5 6 7"])
        self.assert_told([desk.say(f"area {land}") for land in (1, 2)], ["391", "9"])
        # The land that is split: at the left of the wall lies the upper part.
        self.assert_told(desk.say("put 8 8 20 20"), "9 1 3")
        self.assert_told([desk.say(f"area {land}") for land in (1, 2, 3)], ["391/2", "9", "391/2"])
        self.assert_told(desk.say("take 0"), "0 1")
        self.assert_told([desk.say(row) for row in ("lands", "walls", "at 0", "at 3")],
                         ["0 2 3", "9", "1 2 3 4 7 8 9", "1 2 5 6 8 9"])
        self.assert_told([desk.say(f"area {land}") for land in (2, 3)], ["9", "391/2"])
        self.assert_told(desk.say("text").split("\n")[:2], ["wall 0 20 20 20", "wall 0 0 0 20"])

    def test_at_a_land_with_no_wall(self):
        desk = Desk()
        self.assert_told(desk.say("at 0"), "")
        desk.say("put 0 0 1 1")
        self.assert_told(desk.say("at 0"), "0")
        desk.say("take 0")
        self.assert_told(desk.say("at 0"), "")

    def test_absent(self):
        desk = desk_of(box(0, 0, 4, 4) + walls_of([(0, 0, 4, 4)]))
        desk.say("take 4")
        desk.say("put 0 4 4 0")
        self.assert_told(desk.say("lands"), "0 1 3")
        before = all_said(desk)
        for number in (2, 4, 40, THIRTY):
            self.assert_told(self.assert_refused(Absent, desk.say, f"at {number}").number, number)
            self.assert_told(self.assert_refused(Absent, desk.say, f"area {number}").number, number)
        self.assert_told(self.assert_refused(Absent, desk.say, "area 0").number, 0)
        self.assert_told(self.assert_refused(Absent, Desk().say, "area 0").number, 0)
        self.assert_told(self.assert_refused(Absent, Desk().say, "area 1").number, 1)
        self.assert_told(all_said(desk), before)

    def test_areas_by_the_grounds_numbers(self):
        # Put in from the inside outwards, the lands' numbers in the plot come to be others.
        desk = desk_of(box(0, 0, 9, 9) + box(3, 3, 5, 5))
        for row in ("take 4", "take 0", "put 0 0 9 0", "put 3 3 5 3"):
            desk.say(row)
        plot = read_plot(desk.say("text"))
        self.assert_told(desk.say("lands"), "0 3 4")
        self.assert_told(([desk.say(f"area {land}") for land in (3, 4)], [land_area(plot, land) for land in (1, 2)]),
                         (["77", "4"], [(77, 1), (4, 1)]))
        desk.say("take 2")
        self.assert_told((desk.say("lands"), desk.say("area 4")), ("0 4", "4"))

    def test_a_great_area(self):
        bottoms = [10 ** 29 + at for at in (1, 3, 7, 9, 13, 19)]
        ends = [spot(x + Fraction(1, bottoms[at]), y + Fraction(1, bottoms[at + 3]))
                for at, (x, y) in enumerate(((0, 0), (9, 1), (4, 8)))]
        desk = desk_of([(ends[at], ends[at - 1]) for at in range(3)])
        told = desk.say("area 1")
        self.assertGreater(len(told), 200)
        self.assert_told(told, show_fraction(land_area(read_plot(desk.say("text")), 1)))


class NoRows(HelperMixin, unittest.TestCase):
    def assert_no_row(self, row):
        """Refused by a desk with walls and by one without."""
        for desk in (Desk(), self.desk):
            self.assert_refused(NoRow, desk.say, row)

    def setUp(self):
        self.desk = desk_of(box(0, 0, 4, 4))
        self.before = all_said(self.desk)

    def tearDown(self):
        self.assert_told(all_said(self.desk), self.before)

    def test_other_words(self):
        for row in ("", " ", "go", "Walls", "WALLS", "wall", "land", "puts 0 9 1 9", "Put 0 9 1 9", "ok", "help", "0",
                    "steps", "area", "at", "take", "put", "ask", "find", "most", "walls\n", "\nwalls", "text\n",
                    "lands\t", "wall 0 9 1 9", "walls\nlands"):
            self.assert_no_row(row)

    def test_a_blank_more_or_less(self):
        for row in ("walls", "lands", "text", "at 0", "area 1", "take 0", "ask 0 9", "put 0 9 1 9", "most steps",
                    "find cuts 1 1"):
            for wrong in (" " + row, row + " ", row.replace(" ", "  ", 1), row.replace(" ", "", 1), row + "\n"):
                if wrong != row:
                    self.assert_no_row(wrong)

    def test_too_few_or_too_many_words(self):
        for row in ("put", "put 0", "put 0 9", "put 0 9 1", "put 0 9 1 9 2", "put 0 9 1 9 2 9", "take", "take 0 1",
                    "ask", "ask 0", "ask 0 9 1", "find", "find steps", "find steps 0", "find steps 0 9 1", "find 0 9",
                    "most", "most steps cuts", "most steps 0", "walls 0", "lands 0", "text 0", "at", "at 0 1", "area",
                    "area 1 1"):
            self.assert_no_row(row)

    def test_words_that_are_no_fraction(self):
        for word in NO_FRACTIONS:
            for row in (f"put {word} 9 7 9", f"put 0 {word} 7 9", f"put 0 9 {word} 9", f"put 0 9 7 {word}",
                        f"ask {word} 0", f"ask 0 {word}", f"find steps {word} 0", f"find layers 0 {word}"):
                self.assert_no_row(row)

    def test_words_that_are_no_number(self):
        for word in NO_NUMBERS:
            for row in (f"take {word}", f"at {word}", f"area {word}"):
                self.assert_no_row(row)

    def test_words_that_are_no_kind(self):
        for word in ("", "step", "Steps", "STEPS", "plain", "cut", "layer", "1", "steps\n", "tree", "way"):
            self.assert_no_row(f"most {word}")
            self.assert_no_row(f"find {word} 1 1")

    def test_ahead_of_other_refusals(self):
        full = desk_of(ladder())
        for row in ("put 0 0 0 0 ", "put 0 0 0 00", "put 0 0 0 2/2", "take 007", "take -7", "at -1", "area 00"):
            self.assert_refused(NoRow, full.say, row)
        self.assert_told(full.say("walls"), "40")


class WhatHoldsEverywhere(HelperMixin, unittest.TestCase):
    """Promise 2, and what the stages tell, as far as they touch the desk."""

    def test_of_kinds_under_the_told_ones_the_told_kinds_come(self):
        desk = Desk()
        rows = ["put 0 0 4 0", "put 0 0 2 4", "put 2 4 4 0", "ask 2 1", "find steps 2 1", "most cuts", "walls", "lands",
                "at 1", "area 1", "text", "take 1"]
        awaited = ["0", "1", "2 0 1", "land 1", "land 1 4", "4", "3", "0 1", "0 1 2", "8",
                   "wall 0 0 4 0\nwall 0 0 2 4\nwall 2 4 4 0", "0 1"]
        self.assert_told([desk.say(kinds_under(row)) for row in rows], awaited)
        self.assert_told(self.assert_refused(Absent, desk.say, kinds_under("take 9")).number, 9)

    def test_a_desk_tells_what_a_ground_tells(self):
        chance = Random(7)
        desk, ground = Desk(), Ground()
        rows = [(x, y, x + 1, y) for x in range(3) for y in range(4)]
        rows += [(y, x, y, x + 1) for x, y, *end in rows]
        for deed in range(150):
            if chance.randrange(3):
                one = walls_of([chance.choice(rows)])[0]
                self.assert_same(desk, f"put {numbers_of(one[1])} {numbers_of(one[0])}", lambda: ground.put(one))
            else:
                number = chance.randrange(deed + 1)
                self.assert_same(desk, f"take {number}", lambda: ground.take(number))
            self.assert_told(desk.say("text"), show_plot(ground.as_plot()))
            self.assert_told(desk.say("walls"), str(len(ground.walls())))
            self.assert_told(desk.say("lands"), " ".join(map(str, ground.lands())))
            for land in ground.lands():
                self.assert_told(desk.say(f"at {land}"), " ".join(map(str, ground.walls_at(land))))
            areas = [Fraction(desk.say(f"area {land}")) for land in ground.lands()[1:]]
            # The lands of this grid have whole areas, and no more than its nine boxes are shut in.
            self.assertTrue(all(area > 0 and area.denominator == 1 for area in areas) and sum(areas) <= 9)

    def assert_same(self, desk, row, deed):
        """The desk answers what the ground tells, or refuses as it does."""
        try:
            told = deed()
        except SpotError as refusal:
            caught = self.assert_refused(type(refusal), desk.say, row)
            self.assertEqual(vars(caught), vars(refusal))
            return
        words = [] if told is None else [part for part in told if isinstance(part, int)] + list(
            told[1] if isinstance(told[1], tuple) else ())
        self.assert_told(desk.say(row), " ".join(map(str, words)) or "ok")

    def test_other_plots(self):
        for name in ("within", "two within", "corner within", "great"):
            plot = sample_plots()[name]
            desk = desk_of(plot)
            self.assert_told(plot_of(list(read_plot(desk.say("text")))), plot)
            lands = desk.say("lands").split()[1:]
            self.assertEqual(sorted(desk.say(f"area {land}") for land in lands),
                             sorted(show_fraction(land_area(plot, int(land))) for land in lands))

    def test_the_part_at_the_walls_left_is_new_whatever_its_number_in_the_plot(self):
        desk = desk_of(sample_plots()["corner within"])
        # The last wall leads from (0, 0) to (1, 3): at its right lies the small land, which keeps the number.
        self.assert_told([desk.say(row) for row in ("ask 1 1", "ask 5 5", "area 1", "area 2")],
                         ["land 1", "land 2", "4", "32"])


if __name__ == "__main__":
    unittest.main()
