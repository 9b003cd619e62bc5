"""Spots, tuples (x, y) of two fractions, and walls, tuples (first, second) of two spots."""

from spotlook.errors import NoWall
from spotlook.fractions import fraction, is_less


def is_ahead(one, other):
    """Whether the one spot is ahead of the other: by x, and where the xs are alike by y."""
    if one[0] == other[0]:
        return is_less(one[1], other[1])
    return is_less(one[0], other[0])


def later_of(one, other):
    """That one of two spots that is behind the other one."""
    return one if is_ahead(other, one) else other


def earlier_of(one, other):
    """That one of two spots that is ahead of the other one."""
    return one if is_ahead(one, other) else other


def place_among(row, spot):
    """How many spots of a row, those ahead first, are ahead of the spot."""
    low, high = 0, len(row)
    while low < high:
        middle = (low + high) // 2
        if is_ahead(row[middle], spot):
            low = middle + 1
        else:
            high = middle
    return low


def ahead_first(spots):
    """A new list of the spots, those ahead first."""
    row = []
    for spot in spots:
        row.insert(place_among(row, spot), spot)
    return row


def own_spot(spot):
    """The same spot built anew, so that no object that was handed in is told again."""
    x, y = spot
    return (fraction(x[0], x[1]), fraction(y[0], y[1]))


def own_wall(wall):
    """The same wall built anew, as its ends are."""
    return (own_spot(wall[0]), own_spot(wall[1]))


def wall_of(one, other):
    """The wall between two spots told in any order; NoWall where they are alike."""
    if is_ahead(one, other):
        return own_wall((one, other))
    if is_ahead(other, one):
        return own_wall((other, one))
    raise NoWall("the ends of a wall can't be alike")


def gap(one, other):
    """The one fraction less the other, as a top and a bottom above 0 that are left as they come.

    A sign can be read without lowest terms, and bringing great numbers to these would take most of the time.
    """
    return (one[0] * other[1] - other[0] * one[1], one[1] * other[1])


def lean(wall, spot):
    """The number whose sign is the side of the spot at the wall, told as gap tells."""
    (a, b), (c, d) = wall
    x, y = spot
    across, up = gap(c, a), gap(d, b)
    along, high = gap(x, a), gap(y, b)
    return gap((across[0] * high[0], across[1] * high[1]), (up[0] * along[0], up[1] * along[1]))


def side_of(wall, spot):
    """The side of the spot at the wall's line: 1 at the left from the first end to the second, -1 at the right."""
    top = lean(wall, spot)[0]
    if top > 0:
        return 1
    if top < 0:
        return -1
    return 0


def lies_on(wall, spot):
    """Whether the spot lies on the wall, its ends too."""
    first, second = wall
    return side_of(wall, spot) == 0 and not is_ahead(spot, first) and not is_ahead(second, spot)
