"""Walls that meet in any way, parted into a plot."""

from spotlook.errors import TooMany
from spotlook.plots import MOST_WALLS, corners_of, meeting
from spotlook.spots import ahead_first, lies_on, own_spot


def parted(walls):
    """The plot that covers the same spots as the walls; TooMany where it would have more than forty walls."""
    pieces = {}
    for wall in walls:
        cuts = cuts_of(wall, walls)
        for start, end in zip(cuts, cuts[1:]):
            pieces[(start, end)] = True
    if len(pieces) > MOST_WALLS:
        raise TooMany(len(pieces))
    return by_ends(list(pieces))


def cuts_of(wall, walls):
    """The spots at which the wall is cut, its own ends too, those ahead first."""
    cuts = {}
    for other in walls:
        for end in other:
            if lies_on(wall, end):
                cuts[own_spot(end)] = True
        met = meeting(wall, other)
        if met is not None and met[0] == "spot":
            cuts[met[1]] = True
    return ahead_first(list(cuts))


def by_ends(pieces):
    """The tuple of the pieces, by first ends and then by second ends, those ahead first."""
    numbers = {corner: number for number, corner in enumerate(corners_of(pieces))}
    return tuple(sorted(pieces, key=lambda piece: (numbers[piece[0]], numbers[piece[1]])))
