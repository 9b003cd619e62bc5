"""Spots, tuples (x, y) of two fractions, and walls, tuples (first, second) of two spots."""

from spotlook.errors import NoWall
from spotlook.fractions import fraction, is_less, less, times


def is_ahead(one, other):
    """Whether the one spot is ahead of the other: by x, and where the xs are alike by y."""
    if one[0] == other[0]:
        return is_less(one[1], other[1])
    return is_less(one[0], other[0])


def own_spot(spot):
    """The same spot built anew, so that no object that was handed in is told again."""
    x, y = spot
    return (fraction(x[0], x[1]), fraction(y[0], y[1]))


def wall_of(one, other):
    """The wall between two spots told in any order; NoWall where they are alike."""
    if is_ahead(one, other):
        return (own_spot(one), own_spot(other))
    if is_ahead(other, one):
        return (own_spot(other), own_spot(one))
    raise NoWall("the ends of a wall can't be alike")


def side_of(wall, spot):
    """The side of the spot at the wall's line: 1 at the left from the first end to the second, -1 at the right."""
    (a, b), (c, d) = wall
    x, y = spot
    up = times(less(c, a), less(y, b))
    down = times(less(d, b), less(x, a))
    if is_less(down, up):
        return 1
    if is_less(up, down):
        return -1
    return 0


def lies_on(wall, spot):
    """Whether the spot lies on the wall, its ends too."""
    first, second = wall
    return side_of(wall, spot) == 0 and not is_ahead(spot, first) and not is_ahead(second, spot)
