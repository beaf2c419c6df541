"""Parts that miss one another, and parts beside one another."""

from fewspaces.counts import all_parts
from fewspaces.errors import NotBeside
from fewspaces.rows import plus_times, power
from fewspaces.spaces import has_row, need_part, need_parts, need_row, rows_of, widened_by_all


def miss(space, one, other):
    """Whether the two parts hold nothing in common but the row of noughts."""
    need_parts(space, one, other)
    return do_miss(space, one, other)


def do_miss(space, one, other):
    """Whether the two miss one another; both are known to be parts."""
    # The sizes of joined and met are together those of the two, so the met one is () where joined takes all of that.
    return len(widened_by_all(space, one, other)) == len(one) + len(other)


def are_beside(space, one, other):
    """Whether the two parts miss one another and are joined to the whole one."""
    need_parts(space, one, other)
    p, n = space
    return len(one) + len(other) == n and do_miss(space, one, other)


def all_beside(space, part):
    """All parts beside the part, a rising list."""
    need_part(space, part)
    p, n = space
    return [other for other in all_parts(space, n - len(part)) if do_miss(space, part, other)]


def many_beside(space, part):
    """How many parts are beside the part, which is known to be one."""
    p, n = space
    return power(p, len(part) * (n - len(part)))


def parted(space, one, other, row):
    """The row that the one holds and the row that the other holds that come to the row added."""
    if not are_beside(space, one, other):
        raise NotBeside("the two parts are not beside one another")
    need_row(space, row)
    p, n = space
    pairs = [(mine, plus_times(p, row, mine, -1)) for mine in rows_of(space, one)]
    # Of parts beside one another there is just one such pair.
    return [(mine, its) for mine, its in pairs if has_row(space, other, its)][0]
