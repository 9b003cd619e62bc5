"""How walls meet, and plots: tuples of walls that meet at common ends alone."""

from spotlook.errors import Crossing, TooMany
from spotlook.fractions import fraction, less, over, plus, times
from spotlook.spots import ahead_first, earlier_of, is_ahead, later_of, lean, own_spot, own_wall, side_of

MOST_WALLS = 40


def meeting(one, other):
    """How two walls meet: None, ("spot", spot), or ("stretch", wall)."""
    first_side, second_side = side_of(one, other[0]), side_of(one, other[1])
    if first_side == 0 and second_side == 0:
        return meeting_in_line(one, other)
    if first_side * second_side > 0 or side_of(other, one[0]) * side_of(other, one[1]) > 0:
        return None
    return ("spot", crossing_spot(one, other))


def meeting_in_line(one, other):
    """How two walls meet that lie on one line."""
    start = later_of(one[0], other[0])
    end = earlier_of(one[1], other[1])
    if is_ahead(start, end):
        return ("stretch", own_wall((start, end)))
    if is_ahead(end, start):
        return None
    return ("spot", own_spot(start))


def crossing_spot(one, other):
    """The spot in which the other wall meets the line of the one, which is not its own."""
    start, end = other
    top, bottom = lean(one, start)
    from_start = fraction(top, bottom)
    top, bottom = lean(one, end)
    share = over(from_start, less(from_start, fraction(top, bottom)))
    return (number_between(start[0], end[0], share), number_between(start[1], end[1], share))


def number_between(start, end, share):
    """The fraction that lies this share of the way from the start to the end."""
    return plus(start, times(share, less(end, start)))


def meet_as_in_plots(one, other):
    """Whether two walls don't meet, or meet in one spot that is an end of both."""
    met = meeting(one, other)
    if met is None:
        return True
    return met[0] == "spot" and met[1] in one and met[1] in other


def first_crossed(walls, wall):
    """The number of the first of the walls that the wall meets otherwise than in a plot; None where there is none."""
    for number, other in enumerate(walls):
        if not meet_as_in_plots(wall, other):
            return number
    return None


def plot_of(walls):
    """The plot of a list of walls; TooMany or Crossing where they make none."""
    if len(walls) > MOST_WALLS:
        raise TooMany(len(walls))
    for number, wall in enumerate(walls):
        other = first_crossed(walls[:number], wall)
        if other is not None:
            raise Crossing(number, other)
    return own_plot(walls)


def own_plot(walls):
    """The tuple of these walls, each built anew."""
    return tuple([own_wall(wall) for wall in walls])


def corners_of(plot):
    """All ends of the plot's walls, each once, those ahead first."""
    corners = {}
    for wall in plot:
        for end in wall:
            corners[own_spot(end)] = True
    return ahead_first(list(corners))


def ends_by_number(plot, corners):
    """For each wall of a plot with these corners the numbers of its first and its second end."""
    numbers = {corner: number for number, corner in enumerate(corners)}
    return [(numbers[first], numbers[second]) for first, second in plot]
