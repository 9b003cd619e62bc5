"""Looks at corners and walls, and ways that lead by looks to answers.

A way follows a guide. This is ("told", answer), or ("look", word, number, before, past): a look at that corner or
wall, and the guides that are followed where its side is -1 and where it is 1.
"""

from spotlook.plots import corners_of, own_plot
from spotlook.spots import is_ahead, side_of


def halves(n):
    """H: how many looks halving n things makes at most."""
    many = 0
    while n > 0:
        n = n // 2
        many += 1
    return many


def guide_by_halving(things, guides):
    """The guide that halves the things, pairs (word, number), and goes on with guides[k] where k of them are passed."""
    return guide_between(things, guides, 0, len(things))


def guide_between(things, guides, low, high):
    """The guide that goes on halving where at least low and at most high things are passed."""
    if low == high:
        return guides[low]
    middle = (low + high) // 2
    word, number = things[middle]
    before = guide_between(things, guides, low, middle)
    past = guide_between(things, guides, middle + 1, high)
    return ("look", word, number, before, past)


def guide_after(guide, side):
    """The guide that is followed behind the look of a guide; None where it has a side that leads nowhere."""
    word, number, before, past = guide[1:]
    if side == 0:
        return ("told", (word, number))
    if side == -1:
        return before
    if side == 1:
        return past
    return None


def side_at_corner(corner, spot):
    """-1 where the spot is ahead of the corner, 0 where it is the corner, 1 where it is behind it."""
    if is_ahead(spot, corner):
        return -1
    return 1 if is_ahead(corner, spot) else 0


class Way:
    """What leads to answers by looks. Each kind of way gives its guide, and how many looks that needs at most."""

    def __init__(self, plot):
        self.plot = own_plot(plot)
        self.corners = tuple(corners_of(self.plot))
        self.guide = None
        self.most_looks = None

    def after(self, sides):
        """What comes behind looks with these sides: ("look", word, number) or ("told", answer)."""
        guide = self.guide
        for side in sides:
            guide = guide_after(guide, side)
        # What a guide has behind its number is the way's own.
        return guide[:3]

    def side_at(self, word, number, spot):
        """The side that a look at this corner or wall has of the spot."""
        if word == "corner":
            return side_at_corner(self.corners[number], spot)
        return side_of(self.plot[number], spot)

    def looks(self, spot):
        """The looks that are made of the spot, from the begin to the answer."""
        made = []
        guide = self.guide
        while guide[0] == "look":
            word, number = guide[1:3]
            side = self.side_at(word, number, spot)
            made.append((word, number, side))
            guide = guide_after(guide, side)
        return made

    def look(self, spot):
        """The answer: ("corner", c), ("wall", w) or ("land", k)."""
        return self.led(self.looks(spot))

    def led(self, looks):
        """The answer to which these looks lead; None where they don't lead to one."""
        guide = self.guide
        for word, number, side in looks:
            if guide is None or guide[:3] != ("look", word, number):
                return None
            guide = guide_after(guide, side)
        if guide is None or guide[0] == "look":
            return None
        return guide[1]

    def most(self):
        """How many looks are needed at most."""
        return self.most_looks
