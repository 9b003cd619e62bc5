"""Steps: between two corners that are next to each other the walls are passed from the lowest up."""

from spotlook.above import above_table, lowest_first
from spotlook.lands import lands_of_faces
from spotlook.plots import ends_by_number
from spotlook.ways import Way, guide_by_halving, halves


def steps_of(plot, corners):
    """For each number of passed corners the walls that span the spots there, from the lowest up."""
    ends = ends_by_number(plot, corners)
    above = above_table(plot)
    rows = []
    for passed in range(len(corners) + 1):
        row = [wall for wall, (first, second) in enumerate(ends) if first < passed <= second]
        rows.append(lowest_first(row, above))
    return rows


def guide_of_step(row, lands):
    """The guide that halves the walls of a step; lands are the lands of faces."""
    answers = [("land", 0)] + [("land", lands[2 * wall]) for wall in row]
    return guide_by_halving([("wall", wall) for wall in row], [("told", answer) for answer in answers])


class Steps(Way):
    """The way that halves the corners, and then the walls of the step that was found."""

    def __init__(self, plot):
        Way.__init__(self, plot)
        many = len(self.corners)
        lands = lands_of_faces(self.plot)
        self.step_rows = steps_of(self.plot, self.corners)
        self.guide = guide_by_halving([("corner", corner) for corner in range(many)],
                                      [guide_of_step(row, lands) for row in self.step_rows])
        self.most_looks = halves(many) + max([halves(len(row)) for row in self.step_rows])

    def steps(self):
        """The steps: for each number of passed corners the list of its walls' numbers, from the lowest up."""
        return [list(row) for row in self.step_rows]
