"""What a wall spans, and which of two walls lies above the other."""

from spotlook.spots import earlier_of, is_ahead, later_of, own_wall, side_of


def spans(wall, spot):
    """Whether the wall spans the spot: its first end isn't behind it, and its second end is."""
    return not is_ahead(spot, wall[0]) and is_ahead(spot, wall[1])


def is_above(one, other):
    """Whether the one of two unlike walls of a plot lies above the other; False where no spot is spanned by both."""
    start, end = later_of(one[0], other[0]), earlier_of(one[1], other[1])
    if not is_ahead(start, end):
        return False
    place, deciding = (1, end) if one[0] == other[0] else (0, start)
    if deciding == one[place]:
        return side_of(other, deciding) == 1
    return side_of(one, deciding) == -1


def above_table(plot):
    """The table whose place [w][v] tells whether wall w of the plot lies above wall v."""
    return [[is_above(one, other) for other in plot] for one in plot]


def lowest_first(row, above):
    """The numbers of walls that span one spot, from the lowest wall up; above is the plot's table of these."""
    return sorted(row, key=lambda wall: len([other for other in row if above[wall][other]]))


def upper_of(walls):
    """The upper one of one or more walls of a plot that span one spot."""
    upper = walls[0]
    for wall in walls:
        if is_above(wall, upper):
            upper = wall
    return own_wall(upper)


def upper_below(walls, spot):
    """The upper one of the walls that span the spot and at which its side is 1; None where there is none."""
    below = [wall for wall in walls if spans(wall, spot) and side_of(wall, spot) == 1]
    return upper_of(below) if below else None
