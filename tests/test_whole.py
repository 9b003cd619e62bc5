"""Promises 1, 2 and 3 over the whole program, and the interface: its names, arguments and kinds."""

import ast
import importlib
import inspect
import unittest
from fractions import Fraction
from pathlib import Path
from random import Random

import spotlook
from helper import (THIRTY, WAYS, HelperMixin, Patches, as_exact, as_pair, box, exact_wall, kinds_under, left_of,
                    line_spots, lists_within, random_walls, sample_plots, spot, wall, walls_of)
from spotlook.above import is_above, spans, upper_of
from spotlook.beside import area_shut_in, land_area, neighbours, within
from spotlook.cuts import Cuts, fewest
from spotlook.desk import Desk
from spotlook.errors import Crossing, NoText, TooMany
from spotlook.ground import Ground
from spotlook.lands import lands_of, lands_of_faces
from spotlook.layers import Layers
from spotlook.moving import in_order, lands_in_order, lands_mirrored, lands_turned, mirrored, moved, turned
from spotlook.papers import looks_hold, looks_show
from spotlook.parting import parted
from spotlook.plain import look_plainly, wall_below
from spotlook.plots import corners_of, meeting, plot_of
from spotlook.rings import behind, ring_area, rings_of
from spotlook.spots import lies_on
from spotlook.steps import Steps
from spotlook.texts import read_plot, read_questions, show_answers, show_plot, show_questions

# For each module its functions and classes, with how many things each is handed, and the methods of each class.
WAY = {"after": 1, "looks": 1, "look": 1, "led": 1, "most": 0}
INTERFACE = {
    "fractions": {"fraction": 2, "plus": 2, "less": 2, "times": 2, "over": 2, "is_less": 2},
    "spots": {"is_ahead": 2, "wall_of": 2, "side_of": 2, "lies_on": 2},
    "plots": {"meeting": 2, "plot_of": 1, "corners_of": 1}, "parting": {"parted": 1},
    "above": {"spans": 2, "is_above": 2, "upper_of": 1},
    "rings": {"behind": 2, "rings_of": 1, "ring_area": 2}, "lands": {"lands_of": 1, "lands_of_faces": 1},
    "plain": {"wall_below": 2, "look_plainly": 2}, "ways": {"Way": (1, WAY), "halves": 1},
    "steps": {"Steps": (1, WAY | {"steps": 0})}, "layers": {"Layers": (1, WAY | {"layers": 0})},
    "cuts": {"Cuts": (1, WAY | {"tree": 0}), "fewest": 1}, "papers": {"looks_hold": 3, "looks_show": 4},
    "ground": {"Ground": (0, {"put": 1, "take": 1, "walls": 0, "as_plot": 0, "lands": 0, "walls_at": 1, "look": 1})},
    "beside": {"neighbours": 1, "within": 1, "land_area": 2, "area_shut_in": 1},
    "moving": {"moved": 2, "mirrored": 1, "turned": 1, "lands_mirrored": 1, "lands_turned": 1, "in_order": 2,
               "lands_in_order": 2},
    "texts": {"show_fraction": 1, "show_plot": 1, "read_plot": 1, "show_questions": 2, "read_questions": 1,
              "show_answers": 1},
    "desk": {"Desk": (0, {"say": 1})}}


def taken_by_place(thing):
    """How many things a function or class takes by place; none of them may be left out."""
    parameters = inspect.signature(thing).parameters.values()
    assert all(one.kind == one.POSITIONAL_OR_KEYWORD and one.default is one.empty for one in parameters), thing
    return len(parameters)


def parted_plots(many):
    """Plots parted out of walls that cross, by chance."""
    numbers = [Fraction(top, bottom) for top in range(-5, 6) for bottom in (1, 2, 3)]
    plots, seed = [], 100
    while len(plots) < many:
        seed += 1
        chance = Random(seed)
        try:
            plots.append(parted(random_walls(chance, chance.randrange(1, 9), chance.choice([numbers, range(4)]))))
        except TooMany:
            continue
    return plots


class TheInterface(unittest.TestCase):
    def test_names_and_arguments(self):
        for module, names in INTERFACE.items():
            drawn = importlib.import_module(f"spotlook.{module}")
            for name, awaited in names.items():
                thing = getattr(drawn, name)
                self.assertEqual(thing.__module__, f"spotlook.{module}")
                many, methods = awaited if isinstance(awaited, tuple) else (awaited, {})
                self.assertEqual((name, taken_by_place(thing)), (name, many))
                self.assertEqual(isinstance(thing, type), name[0].isupper())
                for method, things in methods.items():
                    self.assertEqual((method, taken_by_place(getattr(thing, method))), (method, things + 1))

    def test_nothing_is_drawn_in_but_the_programs_own(self):
        for path in Path(spotlook.__file__).parent.glob("*.py"):
            for node in ast.walk(ast.parse(path.read_text())):
                self.assertNotIsInstance(node, ast.Import)
                if isinstance(node, ast.ImportFrom):
                    self.assertTrue(node.module.startswith("spotlook."), (path, node.module))


class WhatHoldsEverywhere(HelperMixin, unittest.TestCase):
    """Promise 2."""

    def asks(self):
        """All that can be asked of a plot and a spot, by name."""
        order = list(range(13))[::-1]
        answers, looks = [("land", 0), ("wall", 1)], [("corner", 0, 1), ("wall", 3, -1)]
        text = show_questions(sample_plots()["within"], [spot(1, 1), spot(2, 2)])
        of_plots = (corners_of, rings_of, lands_of, lands_of_faces, neighbours, within, area_shut_in, mirrored, turned,
                    lands_mirrored, lands_turned, show_plot)
        asks = [lambda plot, one, ask=ask: ask(plot) for ask in of_plots]
        for kind in WAYS:
            asks += [lambda plot, one, kind=kind: (kind(plot).plot, kind(plot).looks(one), kind(plot).look(one),
                                                   kind(plot).led(looks), kind(plot).after([]), kind(plot).most())]
        return asks + [
            lambda plot, one: (Steps(plot).steps(), Layers(plot).layers(), Cuts(plot).tree(), fewest(plot[:5])),
            lambda plot, one: [behind(plot, face) for face in range(2 * len(plot))],
            lambda plot, one: [ring_area(plot, ring) for ring in rings_of(plot)],
            lambda plot, one: [meeting(plot[0], other) for other in plot],
            lambda plot, one: (plot_of(list(plot)), parted(list(plot)), upper_of([plot[0]]), spans(plot[0], one)),
            lambda plot, one: (wall_below(plot, one), look_plainly(plot, one), is_above(plot[0], plot[1])),
            lambda plot, one: (looks_hold(plot, one, looks), looks_show(Cuts(plot), one, answers[0], looks)),
            lambda plot, one: (land_area(plot, 1), moved(plot, one)),
            lambda plot, one: (in_order(plot, order), lands_in_order(plot, order)),
            lambda plot, one: (show_questions(plot, [one]), show_answers(answers), read_questions(text)),
            lambda plot, one: self.ground_told(plot, one)]

    def ground_told(self, plot, one):
        ground = Ground()
        told = [ground.put(part) for part in plot]
        return (told, ground.walls(), ground.as_plot(), ground.lands(), ground.walls_at(1), ground.look(one),
                ground.take(2), ground.lands())

    def test_what_is_told_is_of_the_named_kinds_and_the_askers_own(self):
        plot, one = sample_plots()["within"], spot(6, 9)
        for ask in self.asks():
            told, again = ask(plot, one), ask(plot, one)
            self.assert_told(told, again)
            self.assert_kinds(told)
            places = lists_within(told) + lists_within(again)
            self.assertEqual(len(places), len({id(place) for place in places}))
            for place in lists_within(told):
                place.append("spoilt")
            self.assert_told(ask(plot, one), again)

    def assert_kinds(self, told):
        self.assertIn(type(told), (int, bool, str, type(None), tuple, list))
        for part in told if isinstance(told, (tuple, list)) else ():
            self.assert_kinds(part)

    def test_of_kinds_under_the_told_ones_the_told_kinds_come(self):
        plot, one = sample_plots()["within"], spot(6, 9)
        for ask in self.asks():
            self.assert_told(ask(kinds_under(plot), kinds_under(one)), ask(plot, one))

    def test_lists_that_are_handed_in_stay_as_they_were(self):
        plot = sample_plots()["within"]
        walls, crossing, order = list(plot), walls_of([(0, 0, 2, 2), (0, 2, 2, 0)]), list(range(13))[::-1]
        way = Cuts(plot)
        looks, sides, ring = way.looks(spot(6, 9)), [look[2] for look in way.looks(spot(6, 9))], rings_of(plot)[0]
        spots, answers = [spot(1, 1)], [("land", 3)]
        handed = [walls, crossing, order, looks, sides, ring, spots, answers]
        kept = [list(part) for part in handed]
        plot_of(walls)
        parted(crossing)
        self.assert_refused(Crossing, plot_of, crossing)
        upper_of(walls[:1])
        ring_area(plot, ring)
        in_order(plot, order)
        lands_in_order(plot, order)
        way.after(sides)
        way.led(looks)
        looks_hold(plot, spot(6, 9), looks)
        looks_show(way, spot(6, 9), ("land", 1), looks)
        show_questions(plot, spots)
        show_answers(answers)
        self.assert_told(handed, kept)

    def test_greater_numbers_that_were_told_here_are_taken_everywhere(self):
        # Cut, and cut again by walls through the spots that were found: numbers of some hundred figures.
        first = walls_of([(-THIRTY, Fraction(1, THIRTY - 2), THIRTY, Fraction(THIRTY, 7)), (0, -THIRTY, 1, THIRTY),
                          (-3, Fraction(THIRTY * 7, 8), Fraction(10 ** 29, 3), -1)])
        corners = [one for one in corners_of(parted(first)) if one not in [end for part in first for end in part]]
        plot = parted(first + [(corners[0], corners[2]), wall(0, 0, *map(as_exact, corners[1]))])
        self.assertGreater(max(len(str(number)) for one in corners_of(plot) for part in one for number in part), 100)
        ground = Ground()
        for part in plot:
            ground.put(part)
        ways = [kind(plot) for kind in WAYS]
        for one in corners_of(plot) + [spot(x + Fraction(1, THIRTY), y) for x, y in map(lambda part: (
                as_exact(part[0]), as_exact(part[1])), corners)]:
            answer = look_plainly(plot, one)
            self.assert_told([way.look(one) for way in ways], [answer] * 3)
            self.assertTrue(all(looks_show(way, one, answer, way.looks(one)) for way in ways))
            self.assert_told(ground.look(one)[0], answer[0])
        areas = [as_exact(land_area(plot, land)) for land in range(1, len(lands_of(plot)))]
        self.assert_told(area_shut_in(plot), as_pair(sum(areas, Fraction(0))))
        self.assert_told(turned(turned(turned(turned(plot)))), plot)
        self.assert_refused(NoText, read_plot, show_plot(plot))


class ThePromise(HelperMixin, unittest.TestCase):
    """Promise 3, of plots parted out of walls that cross."""

    def setUp(self):
        self.plots = parted_plots(12)

    def test_ways_tell_what_plain_looking_tells_and_their_looks_show_it(self):
        for plot in self.plots:
            ways = [kind(plot) for kind in WAYS]
            patches = Patches(plot)
            for one in [patches.within(patch) for patch in patches.patches] + line_spots(plot)[::3] + corners_of(plot):
                answer = look_plainly(plot, one)
                for way in ways:
                    looks = way.looks(one)
                    self.assert_told((way.look(one), way.led(looks)), (answer, answer))
                    self.assertLessEqual(len(looks), way.most())
                    self.assertTrue(looks_show(way, one, answer, looks))
            if len(plot) <= 5:
                self.assertLessEqual(fewest(plot), ways[2].most())

    def test_lands_areas_and_neighbours(self):
        for plot in self.plots:
            patches = Patches(plot)
            name = {patches.number[patch]: look_plainly(plot, patches.within(patch))[1] for patch in patches.patches}
            self.assertEqual(sorted(name.values()), list(range(len(lands_of(plot)))))
            areas = {name[number]: as_pair(area) for number, area in patches.areas().items()}
            self.assertEqual({land: land_area(plot, land) for land in range(1, len(name))}, areas)
            self.assert_told(area_shut_in(plot), as_pair(sum(map(as_exact, areas.values()), Fraction(0))))
            faces = [name[patches.number[patches.patch_at(*left_of(plot, face))]] for face in range(2 * len(plot))]
            self.assert_told(lands_of_faces(plot), faces)
            pairs = {tuple(sorted(faces[at:at + 2])) for at in range(0, len(faces), 2)}
            self.assert_told([row[:2] for row in neighbours(plot)], sorted(pair for pair in pairs if pair[0] < pair[1]))

    def test_plots_moved_mirrored_turned_and_in_another_order(self):
        for seed, plot in enumerate(self.plots):
            order = list(range(len(plot)))
            Random(seed).shuffle(order)
            by = spot(Fraction(7, 3), -5)
            for there, became, change in (
                    (moved(plot, by), list(range(len(lands_of(plot)))), lambda x, y: (x + Fraction(7, 3), y - 5)),
                    (mirrored(plot), lands_mirrored(plot), lambda x, y: (-x, y)),
                    (turned(plot), lands_turned(plot), lambda x, y: (-y, x)),
                    (in_order(plot, order), lands_in_order(plot, order), lambda x, y: (x, y))):
                patches = Patches(plot)
                for one in [patches.within(patch) for patch in patches.patches]:
                    land = look_plainly(plot, one)[1]
                    self.assert_told(look_plainly(there, spot(*change(*map(as_exact, one)))), ("land", became[land]))

    def test_a_plot_covers_the_same_spots_as_the_walls_it_was_parted_out_of(self):
        chance = Random(4)
        for seed in range(6):
            walls = random_walls(Random(seed), 5, range(4))
            plot = parted(walls)
            for part in walls + list(plot):
                (a, b), (c, d) = exact_wall(part)
                for each in range(4):
                    share = Fraction(chance.randrange(-2, 15), 12)
                    one = spot(a + share * (c - a), b + share * (d - b))
                    self.assertEqual(any(lies_on(other, one) for other in walls),
                                     any(lies_on(other, one) for other in plot))

    def test_a_ground_and_a_desk_tell_what_their_plot_tells(self):
        for plot in self.plots:
            ground, desk = Ground(), Desk()
            for first, second in plot:
                before = ground.lands()
                ground.put((first, second))
                self.assertIn(len(ground.lands()) - len(before), (0, 1))
            self.assert_told(read_plot(show_plot(ground.as_plot())), plot)
            for row in show_plot(plot).split("\n"):
                desk.say("put" + row.removeprefix("wall"))
            self.assert_told(desk.say("text"), show_plot(plot))
            self.assert_told(desk.say("lands"), " ".join(map(str, ground.lands())))
            patches = Patches(plot)
            names = {}
            for one in [patches.within(patch) for patch in patches.patches]:
                names.setdefault(look_plainly(plot, one), set()).add(ground.look(one))
            self.assertTrue(all(len(found) == 1 for found in names.values()))
            self.assertEqual(len({min(found) for found in names.values()}), len(ground.lands()))
            self.assertEqual(names[("land", 0)], {("land", 0)})


class Refused(HelperMixin, unittest.TestCase):
    def test_what_is_refused_changes_nothing(self):
        desk = Desk()
        rows = ["put 0 0 4 0", "put 0 0 2 4", "put 2 4 4 0"]
        for row in rows:
            desk.say(row)
        for wrong in ("put 1 -1 1 1", "put 0 0 0 0", "take 3", "at 2", "area 0", "put", "go", "take 00"):
            with self.assertRaises(ValueError):
                desk.say(wrong)
        self.assert_told((desk.say("walls"), desk.say("lands"), desk.say("put 2 4 2 5")), ("3", "0 1", "3"))
        self.assert_told(plot_of(box(0, 0, 1, 1)), read_plot(show_plot(plot_of(box(0, 0, 1, 1)))))


if __name__ == "__main__":
    unittest.main()
