"""Layers: each wall stands one layer above the highest of those that lie below it."""

from spotlook.above import above_table
from spotlook.lands import lands_of_faces
from spotlook.plots import ends_by_number
from spotlook.ways import Way, guide_by_halving, halves


def layers_of(plot, ends):
    """The walls of each layer, from layer 0 on, by first ends; ends has the numbers of the walls' ends."""
    above = above_table(plot)
    left = list(range(len(plot)))
    rows = []
    # Once all layers further down are taken away, just the next one's walls have none below them.
    while left:
        row = [wall for wall in left if not any([above[wall][other] for other in left])]
        rows.append(sorted(row, key=lambda wall: ends[wall][0]))
        left = [wall for wall in left if wall not in row]
    return rows


def guide_of_layer(row, ends, lands, below):
    """The guide that looks through the walls of a layer, and goes on with the guide below where none is the answer."""
    things = [("corner", ends[wall][0]) for wall in row]
    return guide_by_halving(things, [below] + [guide_of_wall(wall, ends, lands, below) for wall in row])


def guide_of_wall(wall, ends, lands, below):
    """The guide that looks at a wall whose first end is passed."""
    at_wall = ("look", "wall", wall, below, ("told", ("land", lands[2 * wall])))
    return ("look", "corner", ends[wall][1], at_wall, below)


class Layers(Way):
    """The way that looks through the layers from the last one down."""

    def __init__(self, plot):
        Way.__init__(self, plot)
        ends = ends_by_number(self.plot, self.corners)
        lands = lands_of_faces(self.plot)
        self.layer_rows = layers_of(self.plot, ends)
        self.guide = ("told", ("land", 0))
        for row in self.layer_rows:
            self.guide = guide_of_layer(row, ends, lands, self.guide)
        self.most_looks = sum([halves(len(row)) + 2 for row in self.layer_rows])

    def layers(self):
        """The layers, from layer 0 on: for each the list of its walls' numbers, by first ends."""
        return [list(row) for row in self.layer_rows]
