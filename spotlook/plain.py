"""Plain looking: the land of a spot found from all walls."""

from spotlook.above import upper_below
from spotlook.lands import lands_of_faces
from spotlook.plots import corners_of
from spotlook.spots import lies_on


def wall_below(plot, spot):
    """The number of the wall below the spot; None where there is none."""
    wall = upper_below(plot, spot)
    return None if wall is None else plot.index(wall)


def look_plainly(plot, spot):
    """Where the spot lies: ("corner", c), ("wall", w) or ("land", k)."""
    return look_with_lands(plot, lands_of_faces(plot), spot)


def look_with_lands(plot, lands, spot):
    """Where the spot lies; lands are those of the faces, by whatever numbers the lands are to be told."""
    corners = corners_of(plot)
    if spot in corners:
        return ("corner", corners.index(spot))
    for number, wall in enumerate(plot):
        if lies_on(wall, spot):
            return ("wall", number)
    below = wall_below(plot, spot)
    return ("land", 0 if below is None else lands[2 * below])
