"""Spaces, their rows and their parts."""

from fewspaces.errors import NoPart, NoRow
from fewspaces.rows import cleared, head_of, inverse, is_rising, is_whole, noughts_at, plus_times, times

# The greatest n for each p.
MOST_PLACES = {2: 6, 3: 4, 5: 3}


def is_base(thing):
    """Whether a thing, anything, is a p over which there are spaces."""
    # The bounds come first: what is no number may be no key of a dict either.
    return is_whole(thing, 2, 5) and thing in MOST_PLACES


def is_space(thing):
    """Whether a thing, anything, is a space."""
    if not isinstance(thing, tuple) or len(thing) != 2:
        return False
    p, n = thing
    return is_base(p) and is_whole(n, 1, MOST_PLACES[p])


def is_row(space, thing):
    """Whether a thing, anything, is a row of the space."""
    p, n = space
    if not isinstance(thing, tuple) or len(thing) != n:
        return False
    return all([is_whole(number, 0, p - 1) for number in thing])


def is_part(space, thing):
    """Whether a thing, anything, is a part of the space."""
    if not isinstance(thing, tuple) or not all([is_row(space, row) for row in thing]):
        return False
    places = [head_of(row) for row in thing]
    if None in places or not is_rising(places):
        return False
    return all([stands_alone(thing, at, place) for at, place in enumerate(places)])


def stands_alone(rows, at, place):
    """Whether the row that is told by its number has 1 at the place, and all others 0."""
    return rows[at][place] == 1 and noughts_at(rows[:at] + rows[at + 1:], place)


def need_row(space, thing):
    """Refuses what is no row of the space."""
    if not is_row(space, thing):
        raise NoRow("this is no row of the space")


def need_part(space, thing):
    """Refuses what is no part of the space."""
    if not is_part(space, thing):
        raise NoPart("this is no part of the space")


def need_parts(space, one, other):
    """Refuses two things of which either is no part of the space."""
    need_part(space, one)
    need_part(space, other)


def spanned(space, rows):
    """The least part that holds all rows of a tuple or list."""
    if not isinstance(rows, (tuple, list)):
        raise NoRow("rows stand in a tuple or a list")
    for row in rows:
        need_row(space, row)
    return widened_by_all(space, (), rows)


def widened_by_all(space, part, rows):
    """The least part that holds the rows and all that the part holds."""
    wider = part
    for row in rows:
        wider = widened(space, wider, row)
    return wider


def widened(space, part, row):
    """The least part that holds the row and all that the part holds."""
    p, n = space
    rest = left_over(space, part, row)
    head = head_of(rest)
    if head is None:
        return part
    lead = times(p, rest, inverse(p, rest[head]))
    rows = [cleared(p, other, lead, head) for other in part]
    # Of rows with 1 at the head and 0 at the others' heads, that with the earlier head is the greater.
    return tuple(sorted(rows + [lead], reverse=True))


def left_over(space, part, row):
    """The row with rows that the part holds taken away, so that it has 0 at all the part's heads."""
    p, n = space
    rest = row
    for other in part:
        rest = cleared(p, rest, other, head_of(other))
    return rest


def holds(space, part, row):
    """Whether the part holds the row."""
    need_part(space, part)
    need_row(space, row)
    return has_row(space, part, row)


def has_row(space, part, row):
    """Whether the part holds the row; both are known to be what they are told to be."""
    return head_of(left_over(space, part, row)) is None


def rows_of(space, part):
    """All rows that the part holds, a rising list."""
    need_part(space, part)
    p, n = space
    rows = [(0,) * n]
    # Each row begins behind the heads ahead of it, so what came rising stays so.
    for other in part:
        rows = [plus_times(p, row, other, number) for row in rows for number in range(p)]
    return rows
