"""Faces of walls, and the rings that one goes along with a land at the left.

Wall w has the faces 2 w, from its first end to its second, and 2 w + 1, back.
"""

from spotlook.fractions import common_bottom, fraction, top_over
from spotlook.spots import side_of


def face_ends(plot, face):
    """The corner from which the face leads, and the one to which it leads."""
    first, second = plot[face // 2]
    return (first, second) if face % 2 == 0 else (second, first)


def faces_by_start(plot):
    """For each corner the list of the faces that lead from it."""
    leaving = {}
    for face in range(2 * len(plot)):
        leaving.setdefault(face_ends(plot, face)[0], []).append(face)
    return leaving


def is_met_sooner(corner, came_from, one, other):
    """Whether the way to one is met sooner than the way to other, as one turns about the corner to the right.

    The turn begins at the way to came_from, and no two of the three ways go the same way.
    """
    turn = side_of((corner, came_from), one)
    other_turn = side_of((corner, came_from), other)
    # At the right of where the turn begins it has gone less than half round, straight ahead just half, then more.
    if turn != other_turn:
        return turn < other_turn
    return side_of((corner, one), other) == -1


def face_behind(plot, leaving, face):
    """The face that comes behind a face; leaving is what faces_by_start tells of the plot."""
    came_from, corner = face_ends(plot, face)
    back = face ^ 1
    best = back
    for rival in leaving[corner]:
        if rival != back and (best == back or is_met_sooner(
                corner, came_from, face_ends(plot, rival)[1], face_ends(plot, best)[1])):
            best = rival
    return best


def behind(plot, face):
    """The face that comes behind a face."""
    return face_behind(plot, faces_by_start(plot), face)


def ring_from(plot, leaving, face):
    """The faces gone along from a face on until one is back."""
    ring = [face]
    at = face_behind(plot, leaving, face)
    while at != face:
        ring.append(at)
        at = face_behind(plot, leaving, at)
    return ring


def rings_of(plot):
    """All rings, each begun with its least face, those with lesser first faces first."""
    leaving = faces_by_start(plot)
    rings = []
    gone_along = {}
    for face in range(2 * len(plot)):
        if face not in gone_along:
            ring = ring_from(plot, leaving, face)
            rings.append(ring)
            for part in ring:
                gone_along[part] = True
    return rings


def twice_area(plot, ring):
    """Twice the area of a ring, as a top and a bottom above 0 that are left as they come.

    All is reckoned over common bottoms, as adding up fractions in lowest terms takes long where bottoms are great.
    """
    ways = [face_ends(plot, face) for face in ring]
    x_bottom = common_bottom([corner[0] for way in ways for corner in way])
    y_bottom = common_bottom([corner[1] for way in ways for corner in way])
    total = 0
    for (x, y), (next_x, next_y) in ways:
        total += top_over(x, x_bottom) * top_over(next_y, y_bottom)
        total -= top_over(next_x, x_bottom) * top_over(y, y_bottom)
    return (total, x_bottom * y_bottom)


def ring_area(plot, ring):
    """The area of a ring: above 0 where one goes round its land to the left, 0 or less else."""
    top, bottom = twice_area(plot, ring)
    return fraction(top, 2 * bottom)
