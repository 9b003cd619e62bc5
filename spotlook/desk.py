"""A desk: a ground that is told rows of words, and answers with texts."""

from spotlook.beside import land_area
from spotlook.cuts import Cuts
from spotlook.errors import NoRow
from spotlook.ground import Ground
from spotlook.layers import Layers
from spotlook.spots import wall_of
from spotlook.steps import Steps
from spotlook.texts import read_fraction, read_number, show_answers, show_fraction, show_plot

# For each first word of a row what comes behind it: fractions (X), whole numbers (N), kinds of ways (K).
FORMS = {"put": "XXXX", "take": "N", "ask": "XX", "find": "KXX", "most": "K", "walls": "", "lands": "", "at": "N",
         "area": "N", "text": ""}
KINDS = ("steps", "layers", "cuts")


def read_word(sign, word):
    """What a word tells where this sign stands in the row's form; None where it tells nothing."""
    if sign == "N":
        return read_number(word)
    if sign == "K":
        return word if word in KINDS else None
    return read_fraction(word)


def read_row(row):
    """A tuple of the row's first word and the list of what the others tell; NoRow where it is none of the rows."""
    first, *words = row.split(" ")
    form = FORMS.get(first)
    if form is None or len(form) != len(words):
        raise NoRow("the row has other words than a desk is told")
    things = [read_word(sign, word) for sign, word in zip(form, words)]
    if None in things:
        raise NoRow("a word of the row can't be read")
    return (first, things)


def show_numbers(numbers):
    """The numbers, parted by blanks."""
    return " ".join([str(number) for number in numbers])


def way_of(kind, plot):
    """The way of this kind of the plot."""
    if kind == "steps":
        return Steps(plot)
    return Layers(plot) if kind == "layers" else Cuts(plot)


def answer_put(ground, things):
    """Puts a wall in."""
    x, y, other_x, other_y = things
    number, change = ground.put(wall_of((x, y), (other_x, other_y)))
    return show_numbers([number] if change is None else [number, change[0], change[1]])


def answer_take(ground, things):
    """Takes a wall out."""
    change = ground.take(things[0])
    return "ok" if change is None else show_numbers(change)


def answer_ask(ground, things):
    """Tells where a spot lies, by the ground's numbers."""
    return show_answers([ground.look((things[0], things[1]))])


def answer_find(ground, things):
    """Tells what a way tells of a spot, and by how many looks."""
    kind, x, y = things
    way = way_of(kind, ground.as_plot())
    looks = way.looks((x, y))
    told = show_answers([way.led(looks)])
    return f"{told} {len(looks)}"


def answer_most(ground, things):
    """Tells how many looks a way needs at most."""
    return f"{way_of(things[0], ground.as_plot()).most()}"


def answer_walls(ground, things):
    """Tells how many walls there are."""
    return f"{len(ground.walls())}"


def answer_lands(ground, things):
    """Tells the lands' numbers."""
    return show_numbers(ground.lands())


def answer_at(ground, things):
    """Tells the numbers of the walls at a land."""
    return show_numbers(ground.walls_at(things[0]))


def answer_area(ground, things):
    """Tells the area of a land."""
    return show_fraction(land_area(ground.as_plot(), ground.land_in_plot(things[0])))


def answer_text(ground, things):
    """Tells the plot's text."""
    return show_plot(ground.as_plot())


ANSWERS = {"put": answer_put, "take": answer_take, "ask": answer_ask, "find": answer_find, "most": answer_most,
           "walls": answer_walls, "lands": answer_lands, "at": answer_at, "area": answer_area, "text": answer_text}


class Desk:
    """A ground, and one who asks it."""

    def __init__(self):
        self.ground = Ground()

    def say(self, row):
        """The answer to a row; NoRow where it is none, else as the ground refuses."""
        word, things = read_row(row)
        answer = ANSWERS[word]
        return answer(self.ground, things)
