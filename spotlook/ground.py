"""A ground: walls come and go, and the lands that stay keep their numbers."""

from spotlook.errors import Absent, Crossing, TooMany
from spotlook.lands import lands_of_faces
from spotlook.plain import look_with_lands
from spotlook.plots import MOST_WALLS, first_crossed
from spotlook.spots import own_wall


class Ground:
    """Walls and lands, each with a number that is given once."""

    def __init__(self):
        # The walls by their numbers: as these only rise, they stand in their order.
        self.standing = {}
        # The land's number in the ground for each face of the plot.
        self.face_lands = []
        self.next_wall = 0
        self.next_land = 1

    def put(self, wall):
        """Puts a wall in; TooMany or Crossing where it can't be. Told is (number, None) or (number, (kept, new))."""
        numbers, plot = list(self.standing), self.as_plot()
        if len(plot) >= MOST_WALLS:
            raise TooMany(len(plot) + 1)
        crossed = first_crossed(plot, wall)
        if crossed is not None:
            raise Crossing(None, numbers[crossed])
        number = self.next_wall
        self.standing[number] = own_wall(wall)
        self.next_wall += 1
        return (number, self.number_lands())

    def number_lands(self):
        """Numbers the lands behind the putting in of the last wall: None, or (kept, new) where it split a land."""
        faces = lands_of_faces(self.as_plot())
        names = {0: 0}
        # Each land of the plot but land 0 has a face that was there before, also where the new wall bounds it.
        for face, land in enumerate(self.face_lands):
            names[faces[face]] = land
        left, right = faces[-2:]
        change = None
        if left != right:
            change = (names[left], self.next_land)
            names[right if left == 0 else left] = self.next_land
            self.next_land += 1
        self.face_lands = [names[land] for land in faces]
        return change

    def take(self, number):
        """Takes a wall out; Absent where no wall has the number. Told is None, or (kept, gone) of two lands joined."""
        if number not in self.standing:
            raise Absent(number)
        at = 2 * list(self.standing).index(number)
        kept, gone = sorted(self.face_lands[at:at + 2])
        del self.standing[number]
        del self.face_lands[at:at + 2]
        if kept == gone:
            return None
        self.face_lands = [kept if land == gone else land for land in self.face_lands]
        return (kept, gone)

    def walls(self):
        """The walls as a list of tuples (number, wall), by rising numbers."""
        return list(self.standing.items())

    def as_plot(self):
        """The plot of the walls, by rising numbers."""
        return tuple(self.standing.values())

    def lands(self):
        """The lands' numbers, rising."""
        return sorted(set([0] + self.face_lands))

    def walls_at(self, land):
        """The numbers of the walls that have a face of the land, rising; Absent where no land has the number."""
        if land not in self.lands():
            raise Absent(land)
        return [number for at, number in enumerate(self.standing) if land in self.face_lands[2 * at:2 * at + 2]]

    def land_in_plot(self, land):
        """The number that the land has in the plot; Absent where no land has the number."""
        if land not in self.lands():
            raise Absent(land)
        return 0 if land == 0 else lands_of_faces(self.as_plot())[self.face_lands.index(land)]

    def look(self, spot):
        """Where the spot lies, as plain looking tells it, but walls and lands by their numbers in the ground."""
        word, number = look_with_lands(self.as_plot(), self.face_lands, spot)
        return (word, list(self.standing)[number] if word == "wall" else number)
