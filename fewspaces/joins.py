"""Parts joined, parts met, and parts that lie in one another."""

from fewspaces.againsts import against
from fewspaces.spaces import has_row, need_parts, rows_of, widened_by_all


def joined(space, one, other):
    """The least part that holds all that either holds."""
    need_parts(space, one, other)
    return widened_by_all(space, one, other)


def met(space, one, other):
    """The part that holds just what both hold."""
    need_parts(space, one, other)
    # A part holds just what is against the part against it; so both hold just what is against either such part.
    return against(space, joined(space, against(space, one), against(space, other)))


def lies_in(space, one, other):
    """Whether the other part holds all that the one holds."""
    need_parts(space, one, other)
    return is_within(space, one, other)


def is_within(space, one, other):
    """Whether the one lies in the other; both are known to be parts."""
    return all([has_row(space, other, row) for row in one])


def first_beyond(space, one, other):
    """The least row that the one holds and the other doesn't; None where the one lies in the other."""
    need_parts(space, one, other)
    for row in rows_of(space, one):
        if not has_row(space, other, row):
            return row
    return None
