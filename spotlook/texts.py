"""Fractions, plots, questions and answers as texts. What is read tells None where a word or a row can't be read."""

from spotlook.errors import NoText
from spotlook.fractions import fraction
from spotlook.plots import MOST_WALLS, first_crossed
from spotlook.spots import is_ahead

MOST_FIGURES = 30


def show_fraction(one):
    """The fraction's text: its top, and where the bottom isn't 1, a stroke and the bottom."""
    top, bottom = one
    return f"{top}" if bottom == 1 else f"{top}/{bottom}"


def show_row(word, spots):
    """The row of a word and the numbers of some spots."""
    return " ".join([word] + [show_fraction(part) for spot in spots for part in spot])


def wall_rows(plot):
    """The rows of a plot's walls."""
    return [show_row("wall", wall) for wall in plot]


def show_plot(plot):
    """The plot's text."""
    return "\n".join(wall_rows(plot))


def show_questions(plot, spots):
    """The text of a plot and of spots asked of it."""
    return "\n".join(wall_rows(plot) + [show_row("ask", [spot]) for spot in spots])


def show_answers(answers):
    """The text of a list of answers."""
    return "\n".join([f"{word} {number}" for word, number in answers])


def read_number(text):
    """The whole number from 0 on whose figures these are."""
    if not 1 <= len(text) <= MOST_FIGURES or any([sign not in "0123456789" for sign in text]):
        return None
    if text[0] == "0" and text != "0":
        return None
    return int(text)


def read_top(text):
    """The whole number that a fraction's top tells."""
    if not text.startswith("-"):
        return read_number(text)
    number = read_number(text[1:])
    # No number is written with a minus but those below 0.
    return None if number is None or number == 0 else -number


def read_fraction(text):
    """The fraction whose text this is."""
    top_text, stroke, bottom_text = text.partition("/")
    top = read_top(top_text)
    if top is None or stroke == "":
        return None if top is None else (top, 1)
    bottom = read_number(bottom_text)
    if bottom is None or bottom < 2 or fraction(top, bottom) != (top, bottom):
        return None
    return (top, bottom)


def read_spots(word, many, row):
    """The spots of a row of this word and so many spots."""
    first, *words = row.split(" ")
    parts = [read_fraction(part) for part in words]
    if first != word or len(parts) != 2 * many or None in parts:
        return None
    return [(parts[2 * at], parts[2 * at + 1]) for at in range(many)]


def read_wall(row, walls):
    """The wall of a row that makes a plot with these walls ahead of it."""
    spots = read_spots("wall", 2, row)
    if spots is None or not is_ahead(spots[0], spots[1]):
        return None
    wall = (spots[0], spots[1])
    if len(walls) == MOST_WALLS or first_crossed(walls, wall) is not None:
        return None
    return wall


def rows_of(text):
    """The rows of a text; the text without signs has none."""
    return [] if text == "" else text.split("\n")


def read_plot(text):
    """The plot whose text this is; NoText where it is none's."""
    walls = []
    for at, row in enumerate(rows_of(text)):
        wall = read_wall(row, walls)
        if wall is None:
            raise NoText(at)
        walls.append(wall)
    return tuple(walls)


def read_questions(text):
    """The tuple (plot, spots) whose text this is; NoText where it is none's."""
    walls, spots = [], []
    for at, row in enumerate(rows_of(text)):
        asked = read_spots("ask", 1, row)
        wall = None if spots else read_wall(row, walls)
        if asked is None and wall is None:
            raise NoText(at)
        if asked is None:
            walls.append(wall)
        else:
            spots.append(asked[0])
    return (tuple(walls), spots)
