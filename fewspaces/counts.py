"""Parts counted, numbered, and told by their heads."""

from fewspaces.errors import NoHeads, NoNumber
from fewspaces.rows import head_of, is_rising_tuple, is_whole, noughts_at
from fewspaces.spaces import is_base, need_part

MOST_BOX_PLACES = 40


def need_whole(thing, least, greatest):
    """Refuses what is no whole number from least to greatest."""
    if not is_whole(thing, least, greatest):
        raise NoNumber(f"a whole number from {least} to {greatest} is asked for")


def box(p, n, k):
    """How many parts of size k there are in n places."""
    if not is_base(p):
        raise NoNumber("p is 2, 3 or 5")
    need_whole(n, 0, MOST_BOX_PLACES)
    need_whole(k, 0, n)
    boxes = [1]
    for places in range(n):
        boxes = next_boxes(p, boxes)
    return boxes[k]


def next_boxes(p, boxes):
    """All boxes of one place more, those of size 0 ahead."""
    more = [1]
    power = 1
    for k in range(1, len(boxes)):
        power *= p
        more.append(boxes[k - 1] + power * boxes[k])
    more.append(1)
    return more


def all_parts(space, size):
    """All parts of the size, a rising list."""
    p, n = space
    need_whole(size, 0, n)
    headed = [rows_headed(space, head) for head in range(n)]
    parts = [()]
    # The first rows of a part are a part too, so the parts grow row by row, and stay rising.
    for many in range(size):
        parts = [part + (row,) for part in parts for row in rows_behind(headed, part)]
    return parts


def rows_headed(space, head):
    """All rows with 1 at this head, a rising list."""
    p, n = space
    rows = [(0,) * head + (1,)]
    for place in range(head + 1, n):
        rows = [row + (number,) for row in rows for number in range(p)]
    return rows


def rows_behind(headed, part):
    """All rows that make a part of the part when put behind it, a rising list; headed has the rows by their heads."""
    first = head_of(part[-1]) + 1 if part else 0
    rows = []
    # A row with a later head is less.
    for head in reversed(range(first, len(headed))):
        if noughts_at(part, head):
            rows.extend(headed[head])
    return rows


def number_of(space, part):
    """How many parts of its size are less than the part."""
    need_part(space, part)
    return all_parts(space, len(part)).index(part)


def part_of(space, size, number):
    """The part of the size that has the number."""
    p, n = space
    need_whole(size, 0, n)
    need_whole(number, 0, box(p, n, size) - 1)
    return all_parts(space, size)[number]


def heads(space, part):
    """The heads of the part's rows, a rising tuple."""
    need_part(space, part)
    return tuple([head_of(row) for row in part])


def with_heads(space, places):
    """All parts with just these heads, a rising list."""
    p, n = space
    if not is_rising_tuple(places, n - 1):
        raise NoHeads("this is no rising tuple of places of the space")
    parts = [()]
    for place in places:
        headed = rows_headed(space, place)
        parts = [part + (row,) for part in parts if noughts_at(part, place) for row in headed]
    return parts
