"""Chains of parts, what lies between two parts, and their mark."""

from fewspaces.counts import all_parts, box
from fewspaces.errors import NoNumber, NotIn
from fewspaces.joins import is_within
from fewspaces.rows import is_rising_tuple
from fewspaces.spaces import is_part, need_parts


def is_chain(space, thing):
    """Whether a thing, anything, is a tuple of parts each of which lies in the next one and isn't it."""
    if not isinstance(thing, tuple) or not all([is_part(space, part) for part in thing]):
        return False
    return all([one != other and is_within(space, one, other) for one, other in zip(thing, thing[1:])])


def many_chains(space, sizes):
    """How many chains there are of parts of just these sizes, a rising tuple, in order."""
    p, n = space
    if not is_rising_tuple(sizes, n):
        raise NoNumber("this is no rising tuple of sizes of the space")
    many = 1
    places = n
    # In a part there lie as many parts of a size as in a space of so many places.
    for size in reversed(sizes):
        many *= box(p, places, size)
        places = size
    return many


def between(space, one, other):
    """All parts in which the one lies and that lie in the other, those of lesser size ahead, of one size rising."""
    need_parts(space, one, other)
    if not is_within(space, one, other):
        raise NotIn("the one part doesn't lie in the other")
    found = []
    for size in range(len(one), len(other) + 1):
        parts = [part for part in all_parts(space, size) if is_within(space, one, part)]
        found.extend([part for part in parts if is_within(space, part, other)])
    return found


def mark(space, one, other):
    """What, added to the marks of the one and all parts between but the other, comes to 0."""
    need_parts(space, one, other)
    if not is_within(space, one, other):
        return 0
    p, n = space
    found = power = 1
    # With each size more the mark changes its sign, and is multiplied by the next power of p.
    for size in range(len(one), len(other)):
        found = -found * power
        power *= p
    return found
