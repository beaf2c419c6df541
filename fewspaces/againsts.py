"""The part against a part, and bent parts."""

from fewspaces.counts import all_parts
from fewspaces.rows import are_against, head_of
from fewspaces.spaces import need_part, spanned


def against(space, part):
    """The part that holds the rows that are against all that the part holds."""
    need_part(space, part)
    p, n = space
    places = [head_of(row) for row in part]
    free = [place for place in range(n) if place not in places]
    return spanned(space, [row_against(space, part, place) for place in free])


def row_against(space, part, free):
    """The row against all the part's rows that has 1 at the free place, which is no head, and 0 at the others."""
    p, n = space
    numbers = [0] * n
    numbers[free] = 1
    # At its head a row of the part has 1, and the others have 0, so the number there has to undo the free place alone.
    for row in part:
        numbers[head_of(row)] = -row[free] % p
    return tuple(numbers)


def is_bent(space, part):
    """Whether the part lies in the one against it."""
    need_part(space, part)
    return bends(space, part)


def bends(space, part):
    """Whether the part, which is known to be one, is bent."""
    p, n = space
    # What is against each of the part's rows is against all that comes of them.
    return all([are_against(p, row, other) for row in part for other in part])


def bent_parts(space, size):
    """All bent parts of the size, a rising list; what is no size is refused by all_parts."""
    return [part for part in all_parts(space, size) if bends(space, part)]
