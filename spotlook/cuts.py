"""Trees of cuts: strips between two corners are cut along walls that reach over them, and at corners within them.

A strip (a, b) are all spots behind, or alike, at least a and less than b corners.
"""

from spotlook.above import above_table, lowest_first
from spotlook.errors import TooMany
from spotlook.lands import lands_of_faces
from spotlook.plots import corners_of, ends_by_number
from spotlook.ways import Way

MOST_FOR_FEWEST = 5


def reaches_over(ends, strip):
    """Whether the wall whose ends have these numbers reaches over the strip."""
    return ends[0] < strip[0] and ends[1] >= strip[1] - 1


def reaches_into(ends, strip):
    """Whether the wall whose ends have these numbers reaches into the strip."""
    return ends[0] < strip[1] - 1 and ends[1] >= strip[0]


def guide_of_tree(tree):
    """The guide that goes through a tree from the outside inwards."""
    if tree[0] == "land":
        return ("told", tree)
    word, number, before, past = tree
    return ("look", word, number, guide_of_tree(before), guide_of_tree(past))


def looks_within(tree):
    """How many looks a tree needs at most."""
    if tree[0] == "land":
        return 0
    return 1 + max(looks_within(tree[2]), looks_within(tree[3]))


class Cutter:
    """What cuts a plot's strips. Some walls are told by a list of their numbers."""

    def __init__(self, plot):
        corners = corners_of(plot)
        self.ends = ends_by_number(plot, corners)
        self.above = above_table(plot)
        self.whole_strip = (0, len(corners) + 1)
        self.all_walls = list(range(len(plot)))

    def walls_over(self, strip, walls):
        """Those of the walls that reach over the strip, from the lowest up."""
        return lowest_first([wall for wall in walls if reaches_over(self.ends[wall], strip)], self.above)

    def corners_between(self, strip, walls):
        """The corners at which the strip can be cut: those within it that are an end of one of the walls."""
        numbers = sorted({end for wall in walls for end in self.ends[wall]})
        return [number for number in numbers if strip[0] <= number <= strip[1] - 2]

    def cut_at_wall(self, walls, cut):
        """Those of the walls that lie below the wall at which is cut, and those that lie above it."""
        below = [wall for wall in walls if self.above[cut][wall]]
        return (below, [wall for wall in walls if self.above[wall][cut]])

    def cut_at_corner(self, strip, walls, cut):
        """Both strips (ahead of the corner at which is cut, behind it), each as a pair with its walls."""
        strips = ((strip[0], cut + 1), (cut + 1, strip[1]))
        ahead, behind = [[wall for wall in walls if reaches_into(self.ends[wall], part)] for part in strips]
        return ((strips[0], ahead), (strips[1], behind))

    def tree_for(self, strip, walls, land, lands):
        """The tree for a strip, some walls that reach into it, and a land; lands are those of all faces."""
        if not walls:
            return ("land", land)
        over = self.walls_over(strip, walls)
        if over:
            cut = over[len(over) // 2]
            below, above = self.cut_at_wall(walls, cut)
            return ("wall", cut, self.tree_for(strip, below, land, lands),
                    self.tree_for(strip, above, lands[2 * cut], lands))
        between = self.corners_between(strip, walls)
        cut = between[len(between) // 2]
        (ahead, ahead_walls), (behind, behind_walls) = self.cut_at_corner(strip, walls, cut)
        return ("corner", cut, self.tree_for(ahead, ahead_walls, land, lands),
                self.tree_for(behind, behind_walls, land, lands))

    def all_cuts(self, strip, walls):
        """Each way to cut: a pair of what comes of it, each part being a strip and its walls."""
        cuts = []
        for wall in self.walls_over(strip, walls):
            below, above = self.cut_at_wall(walls, wall)
            cuts.append(((strip, below), (strip, above)))
        for corner in self.corners_between(strip, walls):
            cuts.append(self.cut_at_corner(strip, walls, corner))
        return cuts

    def fewest_for(self, strip, walls, known):
        """The least number of looks that a tree needs at most; known keeps what was found out."""
        if not walls:
            return 0
        key = (strip, tuple(walls))
        if key not in known:
            known[key] = 1 + min([max([self.fewest_for(part, left, known) for part, left in parts])
                                  for parts in self.all_cuts(strip, walls)])
        return known[key]


class Cuts(Way):
    """The way that goes through the tree of a plot's cuts."""

    def __init__(self, plot):
        Way.__init__(self, plot)
        cutter = Cutter(self.plot)
        self.cut_tree = cutter.tree_for(cutter.whole_strip, cutter.all_walls, 0, lands_of_faces(self.plot))
        self.guide = guide_of_tree(self.cut_tree)
        self.most_looks = looks_within(self.cut_tree)

    def tree(self):
        """The tree: ("land", k), ("wall", w, below, above) or ("corner", c, ahead, behind)."""
        return self.cut_tree


def fewest(plot):
    """The least number of looks that a tree of cuts of the plot needs at most; TooMany of more than five walls."""
    if len(plot) > MOST_FOR_FEWEST:
        raise TooMany(len(plot))
    cutter = Cutter(plot)
    return cutter.fewest_for(cutter.whole_strip, cutter.all_walls, {})
