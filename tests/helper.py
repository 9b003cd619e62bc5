"""What several test files need."""

from collections import namedtuple
from fractions import Fraction
from functools import cache
from random import Random

from spotlook.cuts import Cuts
from spotlook.errors import Crossing
from spotlook.lands import lands_of_faces
from spotlook.layers import Layers
from spotlook.plain import look_plainly
from spotlook.plots import corners_of, plot_of
from spotlook.spots import wall_of
from spotlook.steps import Steps

THIRTY = 10 ** 30 - 1

WAYS = (Steps, Layers, Cuts)

# One kind under each kind that may be handed in.
Pair = namedtuple("Pair", "one other")


class Row(tuple):
    """A tuple of a kind under tuple, of however many things."""


class Rows(list):
    """A list of a kind under list."""


class Text(str):
    """A text of a kind under str."""


class Whole(int):
    """A whole number of a kind under int."""


class HelperMixin:
    """Checks that go beside those of unittest.TestCase."""

    def assert_told(self, told, awaited):
        """The same value, of the very same kinds all the way down (True is not 1 here)."""
        self.assertEqual(told, awaited)
        self.assert_same_kinds(told, awaited)

    def assert_same_kinds(self, told, awaited):
        self.assertIs(type(told), type(awaited), (told, awaited))
        if isinstance(awaited, (tuple, list)):
            for part, awaited_part in zip(told, awaited, strict=True):
                self.assert_same_kinds(part, awaited_part)

    def assert_refused(self, error_class, deed, *things):
        """Refused with this very class, and with no other one that happens to stand under it."""
        with self.assertRaises(error_class) as caught:
            deed(*things)
        self.assertIs(type(caught.exception), error_class)
        return caught.exception

    def assert_own(self, ask, spoil):
        """Each asking tells the same anew, no list of it at two places, whatever is done to what was told before."""
        first, second = ask(), ask()
        self.assert_told(first, second)
        places = lists_within(first) + lists_within(second)
        self.assertEqual(len(places), len({id(place) for place in places}))
        spoil(first)
        self.assertNotEqual(first, second)
        self.assert_told(ask(), second)

    def assert_finds(self, way, awaited):
        """Of each spot just the awaited looks are made, no more than told ahead, to what plain looking tells."""
        for one in spots_of(way.plot):
            looks, answer = awaited(one)
            self.assert_told(way.looks(one), looks)
            self.assert_told(way.look(one), answer)
            self.assert_told(look_plainly(way.plot, one), answer)
            self.assertLessEqual(len(looks), way.most())


def lists_within(value):
    """Each place of a value at which a list stands."""
    if not isinstance(value, (list, tuple)):
        return []
    own = [value] if isinstance(value, list) else []
    return own + [found for part in value for found in lists_within(part)]


def as_pair(exact):
    """A fraction of Python's own as the tuple that the program is to tell."""
    return (exact.numerator, exact.denominator)


def as_exact(pair):
    return Fraction(pair[0], pair[1])


def spot(x, y):
    """The spot of two numbers, whole or Python's own fractions."""
    return (as_pair(Fraction(x)), as_pair(Fraction(y)))


def exact_spot(one):
    """A spot as a tuple of Python's own fractions, which are in the order of spots."""
    return (as_exact(one[0]), as_exact(one[1]))


def exact_wall(wall):
    return (exact_spot(wall[0]), exact_spot(wall[1]))


def wall(a, b, c, d):
    """The wall between two spots, given by their numbers."""
    return wall_of(spot(a, b), spot(c, d))


def walls_of(rows):
    return [wall(*row) for row in rows]


def box(left, low, right, high):
    """The four walls of a box: the lower one, the upper one, the left one, the right one."""
    return walls_of([(left, low, right, low), (left, high, right, high), (left, low, left, high),
                     (right, low, right, high)])


def kinds_under(value):
    """The same value made of kinds under int, str, tuple and list."""
    if isinstance(value, list):
        return Rows(kinds_under(part) for part in value)
    if isinstance(value, tuple) and len(value) == 2:
        return Pair(kinds_under(value[0]), kinds_under(value[1]))
    if isinstance(value, tuple):
        return Row(kinds_under(part) for part in value)
    return Text(value) if isinstance(value, str) else Whole(value)


def exact_meeting(one, other):
    """How two walls meet, found from what part of the one lies on the other."""
    (a, b), (c, d) = exact_wall(one)
    (p, q), (r, s) = exact_wall(other)
    # At the part t of the one, t from 0 to 1: beside the other's line by off + t * turn, along it by at + t * go.
    off, turn = (r - p) * (b - q) - (s - q) * (a - p), (r - p) * (d - b) - (s - q) * (c - a)
    at, go = (r - p) * (a - p) + (s - q) * (b - q), (r - p) * (c - a) + (s - q) * (d - b)
    low, high = Fraction(0), Fraction(1)
    for grows, bound in ((turn, -off), (-turn, off), (go, (r - p) ** 2 + (s - q) ** 2 - at), (-go, at)):
        # What is kept has grows * t at most at the bound.
        if grows > 0:
            high = min(high, bound / grows)
        elif grows < 0:
            low = max(low, bound / grows)
        elif bound < 0:
            return None
    if low > high:
        return None
    ends = [spot(a + t * (c - a), b + t * (d - b)) for t in (low, high)]
    return ("spot", ends[0]) if low == high else ("stretch", (ends[0], ends[1]))


def random_walls(chance, many, numbers):
    """Walls whose ends have these numbers, that meet in any way."""
    walls = []
    while len(walls) < many:
        ends = [spot(chance.choice(numbers), chance.choice(numbers)) for end in range(2)]
        if ends[0] != ends[1]:
            walls.append(wall_of(ends[0], ends[1]))
    return walls


def random_plot(seed, tries, numbers):
    """The plot of all walls that fit, of this many in a row; the same for the same seed."""
    walls = []
    for new in random_walls(Random(seed), tries, numbers):
        try:
            plot_of(walls + [new])
        except Crossing:
            continue
        walls.append(new)
    return plot_of(walls)


@cache
def sample_plots():
    """Plots by name: boxes within boxes and beside one another, walls that hang freely, above a box, at a corner .."""
    plots = {"none": [], "one": walls_of([(0, 0, 3, 1)]), "upright": walls_of([(0, 0, 0, 2)])}
    plots["box"] = box(0, 0, 4, 4)
    plots["within"] = box(0, 0, 12, 12) + box(2, 2, 10, 10) + box(4, 4, 8, 8) + walls_of([(5, 5, 6, 7)])
    plots["beside"] = box(0, 0, 2, 2) + box(3, 1, 5, 3) + box(6, -1, 9, 1)
    plots["common wall"] = box(0, 0, 2, 2) + walls_of([(2, 0, 4, 0), (2, 2, 4, 2), (4, 0, 4, 2)])
    plots["two within"] = box(0, 0, 9, 4) + box(1, 1, 3, 3) + box(5, 1, 7, 3)
    plots["common corner"] = box(0, 0, 2, 2) + box(2, 2, 4, 4)
    plots["corner within"] = box(0, 0, 6, 6) + walls_of([(0, 0, 3, 1), (3, 1, 1, 3), (0, 0, 1, 3)])
    plots["free"] = box(0, 0, 8, 8) + walls_of([(2, 3, 5, 3), (4, 5, 6, 7), (3, 1, 3, 2)])
    plots["above a box"] = box(0, 0, 4, 2) + walls_of([(1, 3, 3, 3), (2, 4, 2, 6), (-1, 7, 5, 7)])
    plots["at a corner"] = box(0, 0, 4, 4) + walls_of([(4, 4, 6, 5), (0, 0, 2, 2), (0, 4, -2, 4)])
    plots["uprights"] = walls_of([(0, 0, 0, 2), (0, 3, 0, 5), (0, 2, 2, 2), (-2, 3, 0, 3), (-3, -1, 3, -1)])
    plots["star"] = walls_of([(0, 0, x, y) for x, y in ((2, 0), (2, 2), (0, 2), (-2, 2), (-2, 0), (-2, -2), (0, -2))])
    plots["open"] = walls_of([(0, 0, 4, 0), (4, 0, 4, 4), (4, 4, 0, 4), (0, 4, 1, 1), (1, 2, 2, 3)])
    plots["ladder"] = ladder()
    plots["great"] = [wall_of(one, other) for one, other in great_ends()]
    return {name: plot_of(walls) for name, walls in plots.items()}


def ladder():
    """Forty walls: thirteen boxes in a row, each with a wall in common with the next one."""
    walls = walls_of([(0, 0, 0, 1)])
    for x in range(13):
        walls += walls_of([(x, 0, x + 1, 0), (x, 1, x + 1, 1), (x + 1, 0, x + 1, 1)])
    return walls


def great_ends():
    """The ends of a triangle within another one, with numbers of thirty figures."""
    outer = [spot(-THIRTY, -THIRTY), spot(THIRTY, Fraction(-THIRTY, 7)), spot(Fraction(1, THIRTY), THIRTY)]
    inner = [spot(Fraction(one, THIRTY - 4), Fraction(other, THIRTY - 3)) for one, other in ((-5, 0), (3, 2), (1, 9))]
    return [(spots[at], spots[at - 1]) for spots in (outer, inner) for at in range(3)]


def grid_plot(seed, size, many):
    """Some of the sides and slanting walls of the boxes of a grid; the same for the same seed."""
    chance = Random(seed)
    pieces = []
    for x in range(size):
        for y in range(size):
            slants = [(x, y, x + 1, y + 1), (x + 1, y, x, y + 1)]
            pieces += [(x, y, x + 1, y), (x, y, x, y + 1), chance.choice(slants)]
    chance.shuffle(pieces)
    return plot_of(walls_of(pieces[:many]))


def random_plots():
    numbers = [Fraction(top, bottom) for top in range(-6, 7) for bottom in (1, 2, 3, 5)]
    plots = [random_plot(seed, 30 + 3 * seed, range(5)) for seed in range(8)]
    plots += [random_plot(seed, 60, numbers) for seed in range(4)]
    return plots + [grid_plot(seed, 3 + seed % 4, 15 + 3 * seed % 26) for seed in range(24)]


@cache
def many_plots():
    return tuple(sample_plots().values()) + tuple(random_plots())


@cache
def many_ways():
    """Each kind of way of each of the many plots."""
    return tuple(kind(plot) for plot in many_plots() for kind in WAYS)


@cache
def small_plots():
    """Plots of at most five walls: few enough that all lists of looks can be gone through."""
    plots = [plot for plot in many_plots() if len(plot) <= 5]
    for seed in range(12):
        plots.append(random_plot(seed, 2 + seed % 4, range(3 + seed % 2)))
    plots.append(plot_of(walls_of([(0, y, 2, y) for y in range(5)])))
    plots.append(plot_of(walls_of([(x, 0, x, 2) for x in range(5)])))
    plots.append(plot_of(walls_of([(x, 0, x + 1, 0) for x in range(5)])))
    plots.append(plot_of(walls_of([(0, 0, 9, 0), (0, 0, 5, 9), (5, 9, 9, 0), (4, 2, 6, 2), (4, 3, 6, 3)])))
    return tuple(plots)


def line_spots(plot):
    """Spots straight above and below corners, on the lines of walls within and beside them, at corners."""
    corners = [exact_spot(corner) for corner in corners_of(plot)]
    chance = Random(len(plot))
    spots = [spot(0, 0)]
    for x, y in corners:
        spots += [spot(x, y + up) for up in (Fraction(1, 7), Fraction(-1, 7), chance.randrange(-3, 4))]
        spots.append(spot(x, chance.choice(corners)[1]))
    for (a, b), (c, d) in [exact_wall(part) for part in plot]:
        for part in (Fraction(-1, 3), Fraction(1, 2), Fraction(4, 3)):
            spots.append(spot(a + part * (c - a), b + part * (d - b)))
    return spots


def all_ends(way, looks=()):
    """Each list of looks that leads the way to an answer, and the answer, as after tells it."""
    told = way.after([look[2] for look in looks])
    if told[0] == "told":
        return [(list(looks), told[1])]
    ends = [(list(looks) + [told[1:] + (0,)], told[1:])]
    for side in (-1, 1):
        ends += all_ends(way, looks + (told[1:] + (side,),))
    return ends


class Patches:
    """What the plane falls into where the walls cut it, found without rings and without walls below spots.

    Upright lines through all corners part the plane into slabs, and the walls part each slab into patches. Two
    patches of slabs that are next to each other are joined where they have a stretch of the line in common that
    no upright wall covers. So patches are of one land just where they are joined, in whatever many steps.
    """

    def __init__(self, plot):
        self.walls = [exact_wall(one) for one in plot]
        xs = sorted({end[0] for one in self.walls for end in one})
        self.borders = [xs[0] - 1] + xs + [xs[-1] + 1] if xs else [Fraction(0), Fraction(1)]
        self.slabs = [self.slab(at) for at in range(len(self.borders) - 1)]
        self.patches = [(at, k) for at, rows in enumerate(self.slabs) for k in range(len(rows) + 1)]
        self.number = {patch: number for number, patch in enumerate(self.patches)}
        for at in range(len(self.slabs) - 1):
            self.join_across(at)

    def slab(self, at):
        """The walls that go right through a slab, the lowest first."""
        left, right = self.borders[at], self.borders[at + 1]
        through = [one for one in self.walls if one[0][0] <= left and one[1][0] >= right]
        return sorted(through, key=lambda one: height(one, (left + right) / 2))

    def bounds(self, patch, x):
        """Between what heights the patch lies at an x; an open side is far away."""
        at, k = patch
        rows = self.slabs[at]
        far = Fraction(10 ** 40)
        return (height(rows[k - 1], x) if k > 0 else -far, height(rows[k], x) if k < len(rows) else far)

    def join_across(self, at):
        x = self.borders[at + 1]
        for left in [patch for patch in self.patches if patch[0] == at]:
            for right in [patch for patch in self.patches if patch[0] == at + 1]:
                if self.have_open_stretch(x, self.bounds(left, x), self.bounds(right, x)):
                    self.join(left, right)

    def have_open_stretch(self, x, one, other):
        low, high = max(one[0], other[0]), min(one[1], other[1])
        for first, second in sorted(one for one in self.walls if one[0][0] == one[1][0] == x):
            if first[1] > low:
                break
            low = max(low, second[1])
        return low < high

    def join(self, one, other):
        kept, joined = sorted((self.number[one], self.number[other]))
        self.number = {patch: kept if number == joined else number for patch, number in self.number.items()}

    def within(self, patch):
        """A spot within the patch, at no line and on no wall."""
        x = (self.borders[patch[0]] + self.borders[patch[0] + 1]) / 2
        low, high = self.bounds(patch, x)
        if self.slabs[patch[0]] and patch[1] == 0:
            low = high - 1
        if self.slabs[patch[0]] and patch[1] == len(self.slabs[patch[0]]):
            high = low + 1
        return spot(x, (low + high) / 2)

    def patch_at(self, x, y):
        """The patch of an exact spot on no wall; of an x at a line, the patch at its left that touches there."""
        at = max([0] + [k for k in range(len(self.slabs)) if self.borders[k] < x])
        return (at, len([one for one in self.slabs[at] if height(one, x) < y]))

    def areas(self):
        """The area of all patches that are of one land, by their number; the open one's is left out."""
        totals = {}
        for patch, number in self.number.items():
            left, right = self.borders[patch[0]], self.borders[patch[0] + 1]
            if number != 0:
                low, high = self.bounds(patch, (left + right) / 2)
                totals[number] = totals.get(number, 0) + (right - left) * (high - low)
        return totals


def height(one, x):
    """The y at which an exact wall that is not upright has this x."""
    (a, b), (c, d) = one
    return b + (d - b) * (x - a) / (c - a)


def both_span(one, other):
    """Whether there is a spot that both walls span: then the first such one is a first end."""
    return any(exact_spot(one[0]) <= first < exact_spot(one[1]) and exact_spot(other[0]) <= first < exact_spot(other[1])
               for first in (exact_spot(one[0]), exact_spot(other[0])))


def height_at(one, x):
    """How high an exact wall is at an x; of an upright one the middle."""
    (a, b), (c, d) = one
    return (b + d) / 2 if a == c else height(one, x)


def exact_above(one, other):
    """Whether the one wall is higher than the other in the middle of the xs that both have."""
    if not both_span(one, other):
        return False
    first, second = exact_wall(one), exact_wall(other)
    x = (max(first[0][0], second[0][0]) + min(first[1][0], second[1][0])) / 2
    return height_at(first, x) > height_at(second, x)


def left_of(plot, face, near=Fraction(1, 10 ** 120)):
    """An exact spot at the left of a face, nearer to its middle than anything else of the plot."""
    (a, b), (c, d) = exact_wall(plot[face // 2])
    if face % 2:
        a, b, c, d = c, d, a, b
    return ((a + c) / 2 - near * (d - b), (b + d) / 2 + near * (c - a))


@cache
def exact_corners(plot):
    return [exact_spot(corner) for corner in corners_of(plot)]


@cache
def lands_at_left(plot):
    """The land of each wall's left face."""
    return lands_of_faces(plot)[::2]


def exact_side(word, number, plot, one):
    """The side of a look, by Python's own fractions."""
    x, y = exact_spot(one)
    if word == "corner":
        corner = exact_corners(plot)[number]
        return ((x, y) > corner) - ((x, y) < corner)
    (a, b), (c, d) = exact_wall(plot[number])
    value = (c - a) * (y - b) - (d - b) * (x - a)
    return (value > 0) - (value < 0)


def halved(word, numbers, plot, one, looks):
    """How many things are passed, None where a side is 0; the looks go into the list."""
    low, high = 0, len(numbers)
    while low < high:
        middle = (low + high) // 2
        side = exact_side(word, numbers[middle], plot, one)
        looks.append((word, numbers[middle], side))
        if side == 0:
            return None
        low, high = (middle + 1, high) if side == 1 else (low, middle)
    return low


@cache
def spots_of(plot):
    patches = Patches(plot)
    return [patches.within(patch) for patch in patches.patches] + line_spots(plot) + corners_of(plot)
