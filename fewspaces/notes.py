"""Parts and turns written as texts, and read."""

from fewspaces.errors import BadNote
from fewspaces.spaces import is_part
from fewspaces.turns import is_turn

LEAST_PART = "none"
# Each number of a space stands at the place that it tells; none of them is greater.
FIGURES = "01234"


def part_text(part):
    """The part as it is written."""
    return rows_text(part) if part else LEAST_PART


def turn_text(turn):
    """The turn as it is written."""
    return rows_text(turn)


def rows_text(rows):
    """The rows as they are written, with / between."""
    return "/".join([row_text(row) for row in rows])


def row_text(row):
    """The row's numbers, one behind the other."""
    return "".join([FIGURES[number] for number in row])


def part_read(space, text):
    """The part of the space that is written so."""
    part = () if text == LEAST_PART else rows_read(text)
    if not is_part(space, part):
        raise BadNote("no part of the space is written so")
    return part


def turn_read(space, text):
    """The turn of the space that is written so."""
    turn = rows_read(text)
    if not is_turn(space, turn):
        raise BadNote("no turn of the space is written so")
    return turn


def rows_read(text):
    """What may be rows: a tuple of one tuple at least, with -1 for each sign that is no figure."""
    if not isinstance(text, str):
        raise BadNote("this is no text")
    return tuple([tuple([FIGURES.find(sign) for sign in row]) for row in text.split("/")])
