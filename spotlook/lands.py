"""Lands, and the rings that bound them. Land 0 is the open one."""

from spotlook.above import upper_below
from spotlook.rings import face_ends, rings_of, twice_area
from spotlook.spots import ahead_first, earlier_of


def outer_and_inner(plot):
    """The plot's rings as two lists: the outer rings of lands, and the inner ones."""
    outers, inners = [], []
    for ring in rings_of(plot):
        if twice_area(plot, ring)[0] > 0:
            outers.append(ring)
        else:
            inners.append(ring)
    return (outers, inners)


def first_corner(plot, ring):
    """The corner of the ring that is ahead of all its others."""
    first = face_ends(plot, ring[0])[0]
    for face in ring:
        first = earlier_of(first, face_ends(plot, face)[0])
    return first


def land_about(plot, lands, corner):
    """The land in which the ring lies whose first corner this is; lands has those of rings with first corners ahead.

    No wall that hangs together with the ring's is below the corner: such a wall has no end ahead of it, so where it
    spans the corner, it begins there.
    """
    wall = upper_below(plot, corner)
    return 0 if wall is None else lands[2 * plot.index(wall)]


def lands_of_faces(plot):
    """The land of each face, in a list by the faces' numbers."""
    outers, inners = outer_and_inner(plot)
    lands = [0] * (2 * len(plot))
    for number, ring in enumerate(outers, start=1):
        for face in ring:
            lands[face] = number
    ring_at = {first_corner(plot, ring): ring for ring in inners}
    # A wall below a corner begins ahead of it, and so does its ring: taken in this order, its land is known by then.
    for corner in ahead_first(list(ring_at)):
        land = land_about(plot, lands, corner)
        for face in ring_at[corner]:
            lands[face] = land
    return lands


def lands_of(plot):
    """A list with a tuple (outer, inners) of rings for each land; outer is None for land 0."""
    outers, inners = outer_and_inner(plot)
    lands = [(None, [])] + [(ring, []) for ring in outers]
    numbers = lands_of_faces(plot)
    for ring in inners:
        lands[numbers[ring[0]]][1].append(ring)
    return lands
