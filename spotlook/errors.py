"""The refusals: each has a class of its own, straight under SpotError."""


class SpotError(ValueError):
    """Any refusal."""


class NoFraction(SpotError):
    """Two numbers make no fraction, or one is to be divided by 0."""


class NoWall(SpotError):
    """Two spots that are alike make no wall."""


class TooMany(SpotError):
    """There are more walls than may be: count is how many."""

    def __init__(self, count):
        SpotError.__init__(self, f"too many walls: {count}")
        self.count = count


class Crossing(SpotError):
    """A wall meets another one elsewhere than at an end of both: wall and other are their numbers."""

    def __init__(self, wall, other):
        SpotError.__init__(self, f"wall {wall} meets wall {other} elsewhere than at an end of both")
        self.wall = wall
        self.other = other


class Absent(SpotError):
    """Nothing of the kind that was asked for has this number."""

    def __init__(self, number):
        SpotError.__init__(self, f"nothing has the number {number}")
        # What is asked for is handed in, and may be of a kind under int.
        self.number = int(number)


class NoText(SpotError):
    """A text can't be read: row is the number of the first row that is wrong."""

    def __init__(self, row):
        SpotError.__init__(self, f"row {row} can't be read")
        self.row = row


class NoRow(SpotError):
    """What a desk was told is none of its rows."""
