"""Lands that are beside one another, walls within one land, and the areas of lands."""

from spotlook.errors import Absent
from spotlook.fractions import less, plus
from spotlook.lands import lands_of, lands_of_faces
from spotlook.rings import ring_area


def lands_beside(plot):
    """For each wall the lands of its two faces, the lesser number first."""
    lands = lands_of_faces(plot)
    return [tuple(sorted(lands[2 * wall:2 * wall + 2])) for wall in range(len(plot))]


def neighbours(plot):
    """All pairs of lands beside one another as tuples (k, l, walls), by rising k and then l, with the walls between."""
    walls_between = {}
    for wall, (one, other) in enumerate(lands_beside(plot)):
        if one != other:
            walls_between.setdefault((one, other), []).append(wall)
    return [(one, other, walls_between[(one, other)]) for one, other in sorted(walls_between)]


def within(plot):
    """The walls both faces of which are of one land, rising."""
    return [wall for wall, (one, other) in enumerate(lands_beside(plot)) if one == other]


def sum_of_areas(plot, rings):
    """The sum of the rings' areas."""
    total = (0, 1)
    for ring in rings:
        total = plus(total, ring_area(plot, ring))
    return total


def land_area(plot, land):
    """The area of a land but the open one; Absent of any other number, and of 0."""
    lands = lands_of(plot)
    if not 0 < land < len(lands):
        raise Absent(land)
    outer, inners = lands[land]
    return sum_of_areas(plot, [outer] + inners)


def area_shut_in(plot):
    """The area of all lands but the open one together."""
    return less((0, 1), sum_of_areas(plot, lands_of(plot)[0][1]))
