"""Plots moved, mirrored, turned and put in another order, and what their lands become."""

from spotlook.fractions import plus
from spotlook.lands import lands_of_faces
from spotlook.plots import own_plot
from spotlook.spots import is_ahead, wall_of


def mirrored_spot(spot):
    """The spot (- x, y) of a spot (x, y)."""
    x, y = spot
    return ((-x[0], x[1]), y)


def turned_spot(spot):
    """The spot (- y, x) of a spot (x, y)."""
    x, y = spot
    return ((-y[0], y[1]), x)


def with_spots(plot, become):
    """The plot of the walls whose ends have become what become tells of them."""
    return tuple([wall_of(become(first), become(second)) for first, second in plot])


def moved(plot, spot):
    """The plot moved by a spot (p, q): each spot (x, y) becomes (x + p, y + q)."""
    return with_spots(plot, lambda end: (plus(end[0], spot[0]), plus(end[1], spot[1])))


def mirrored(plot):
    """The plot mirrored: each spot (x, y) becomes (- x, y)."""
    return with_spots(plot, mirrored_spot)


def turned(plot):
    """The plot turned: each spot (x, y) becomes (- y, x)."""
    return with_spots(plot, turned_spot)


def faces_become(plot, become, exchanges_sides):
    """For each face of the plot the one that then lies in its land; exchanges_sides: what was left is then right."""
    faces = []
    for wall, (first, second) in enumerate(plot):
        goes_back = is_ahead(become(second), become(first))
        # Where both are so, one goes along the wall the other way, but the land lies at the other side, too.
        keeps = goes_back == exchanges_sides
        faces += [2 * wall, 2 * wall + 1] if keeps else [2 * wall + 1, 2 * wall]
    return faces


def lands_become(plot, other_plot, faces):
    """For each land of the plot its number in the other one; faces tells which face there each face has become."""
    lands, other_lands = lands_of_faces(plot), lands_of_faces(other_plot)
    # Each land but the open one has a face.
    numbers = [0] * (max(lands, default=0) + 1)
    for face, land in enumerate(lands):
        numbers[land] = other_lands[faces[face]]
    return numbers


def lands_mirrored(plot):
    """For each land of the plot in order the number of the land that it has become in the mirrored plot."""
    return lands_become(plot, mirrored(plot), faces_become(plot, mirrored_spot, True))


def lands_turned(plot):
    """For each land of the plot in order the number of the land that it has become in the turned plot."""
    return lands_become(plot, turned(plot), faces_become(plot, turned_spot, False))


def in_order(plot, order):
    """The plot whose wall k is the old one with the number at k in the order."""
    return own_plot([plot[wall] for wall in order])


def lands_in_order(plot, order):
    """For each land of the plot in order its number in the plot in that order of walls."""
    faces = [0] * (2 * len(plot))
    for place, wall in enumerate(order):
        faces[2 * wall] = 2 * place
        faces[2 * wall + 1] = 2 * place + 1
    return lands_become(plot, in_order(plot, order), faces)
