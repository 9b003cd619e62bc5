"""Papers: looks that somebody wrote, held against the walls."""

from spotlook.plots import corners_of
from spotlook.spots import side_of
from spotlook.ways import side_at_corner


def looks_hold(plot, spot, looks):
    """Whether each of the looks is one at a corner or a wall of the plot, and tells what is so of the spot."""
    corners = corners_of(plot)
    return all([look_holds(plot, corners, spot, look) for look in looks])


def look_holds(plot, corners, spot, look):
    """Whether one look holds of the spot; corners are those of the plot."""
    word, number, side = look
    if word == "corner" and 0 <= number < len(corners):
        return side_at_corner(corners[number], spot) == side
    if word == "wall" and 0 <= number < len(plot):
        return side_of(plot[number], spot) == side
    return False


def looks_show(way, spot, answer, looks):
    """Whether the looks hold of the way's plot and the spot, and lead the way to the answer."""
    return looks_hold(way.plot, spot, looks) and way.led(looks) == answer
