"""Lots apart: parts of one size, any two of which miss one another."""

from fewspaces.counts import all_parts, need_whole
from fewspaces.errors import NoLot, TooMany
from fewspaces.misses import do_miss
from fewspaces.rows import is_rising, power
from fewspaces.spaces import is_part

# The greatest n of a space of which lots apart are filled.
MOST_FILLED_PLACES = 4


def need_size(space, size):
    """Refuses what is no size of the parts of a lot apart."""
    p, n = space
    need_whole(size, 1, n)


def is_apart(space, size, thing):
    """Whether a thing, anything, is a rising tuple of parts of the size, any two of which miss one another."""
    need_size(space, size)
    if not isinstance(thing, tuple) or not all([is_part(space, part) and len(part) == size for part in thing]):
        return False
    if not is_rising(thing):
        return False
    return all([misses_all(space, part, thing[:at]) for at, part in enumerate(thing)])


def misses_all(space, part, others):
    """Whether the part misses each of the others."""
    return all([do_miss(space, part, other) for other in others])


def need_lot(space, size, thing):
    """Refuses what is no lot apart of the size, and ahead of that what is no size."""
    if not is_apart(space, size, thing):
        raise NoLot("this is no lot apart of the space and the size")


def is_full(space, size, lot):
    """Whether each row but that of noughts is held by a part of the lot apart."""
    need_lot(space, size, lot)
    p, n = space
    # No row but that of noughts is held by two of them, so it is enough to count.
    return len(lot) * (power(p, size) - 1) == power(p, n) - 1


def need_few_places(space):
    """Refuses a space that is too great for filling lots apart."""
    p, n = space
    if n > MOST_FILLED_PLACES:
        raise TooMany(f"lots apart are filled in spaces of at most {MOST_FILLED_PLACES} places")


def some_full(space, size):
    """Some full lot apart of the size; None where there is none."""
    need_size(space, size)
    need_few_places(space)
    p, n = space
    if n % size != 0:
        return None
    # In each space of so few places the least parts, taken one behind the other, come to a full lot apart.
    return filled_up(space, size, ())


def filled(space, size, lot):
    """The lot apart with the least part that misses all put to it so long as there is one."""
    need_lot(space, size, lot)
    need_few_places(space)
    return filled_up(space, size, lot)


def filled_up(space, size, lot):
    """The lot, which is known to be one apart, filled."""
    found = list(lot)
    # Once a part doesn't miss all it never will, so to go through the rising parts a single time is enough.
    for part in all_parts(space, size):
        if misses_all(space, part, found):
            found.append(part)
    return tuple(sorted(found))
