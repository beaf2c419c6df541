"""Turns: where they lead rows and parts, their rounds and their lots."""

from fewspaces.counts import all_parts
from fewspaces.errors import NoTurn
from fewspaces.rows import head_of, one_at, plus_times, power
from fewspaces.spaces import is_row, need_part, need_parts, need_row, widened_by_all


def is_turn(space, thing):
    """Whether a thing, anything, is a tuple of n rows that span the whole part."""
    p, n = space
    if not isinstance(thing, tuple) or len(thing) != n:
        return False
    return all([is_row(space, row) for row in thing]) and len(widened_by_all(space, (), thing)) == n


def need_turn(space, thing):
    """Refuses what is no turn of the space."""
    if not is_turn(space, thing):
        raise NoTurn("this is no turn of the space")


def led_row(space, turn, row):
    """The row to which the turn leads the row."""
    need_turn(space, turn)
    need_row(space, row)
    return row_led_by(space, turn, row)


def row_led_by(space, turn, row):
    """The turn's rows, each times the number at its place in the row, added."""
    p, n = space
    found = (0,) * n
    for number, other in zip(row, turn):
        found = plus_times(p, found, other, number)
    return found


def led(space, turn, part):
    """The part to which the turn leads the part."""
    need_turn(space, turn)
    need_part(space, part)
    return part_led_by(space, turn, part)


def part_led_by(space, turn, part):
    """The part of all rows to which the turn leads the part's rows; both are known to be what they are told to be."""
    # What comes of the part's rows is led to what comes of those to which they are led.
    return widened_by_all(space, (), [row_led_by(space, turn, row) for row in part])


def behind(space, one, other):
    """The turn that leads each row to where it is led by the one, and what comes, by the other."""
    need_turn(space, one)
    need_turn(space, other)
    return one_then_other(space, one, other)


def one_then_other(space, one, other):
    """The two turns, which are known to be such, done one behind the other."""
    # A turn's rows are those to which it leads the rows with a single 1.
    return tuple([row_led_by(space, other, row) for row in one])


def back(space, turn):
    """The turn that leads each row back."""
    need_turn(space, turn)
    # Done once more it would lead each row to itself.
    return whole_round(space, turn)[-1]


def round_of(space, turn):
    """How often at least, once or more, the turn is done till each row is led to itself."""
    need_turn(space, turn)
    return len(whole_round(space, turn))


def whole_round(space, turn):
    """What comes of doing the turn never, once, twice, till just ahead of what leads each row to itself again."""
    first = grown_to_turn(space, ())
    found = [first]
    last = turn
    while last != first:
        found.append(last)
        last = one_then_other(space, last, turn)
    return found


def grown_to_turn(space, part):
    """The part's rows with a row behind them for each place that is no head, 1 there alone.

    So () grows to the turn that leads each row to itself.
    """
    p, n = space
    places = [head_of(row) for row in part]
    return part + tuple([one_at(n, place) for place in range(n) if place not in places])


def many_turns(space):
    """How many turns the space has."""
    p, n = space
    many = 1
    # Each of a turn's rows is any but those, power(p, size) of them, that come of the rows ahead.
    for size in range(n):
        many *= power(p, n) - power(p, size)
    return many


def lots_of(space, turn, size):
    """The turn's lots of parts of the size, rising tuples, a rising list; what is no size is refused by all_parts."""
    need_turn(space, turn)
    seen = set()
    lots = []
    # The parts come rising, so the first one of a lot that is met is its least, and the lots come rising too.
    for part in all_parts(space, size):
        if part not in seen:
            lot = lot_with(space, turn, part)
            lots.append(lot)
            for other in lot:
                seen.add(other)
    return lots


def lot_with(space, turn, part):
    """All parts to which the turn, done again and again, leads the part, a rising tuple."""
    found = [part]
    last = part_led_by(space, turn, part)
    while last != part:
        found.append(last)
        last = part_led_by(space, turn, last)
    return tuple(sorted(found))


def some_turn(space, one, other):
    """Some turn that leads the one part to the other; None where they have unlike sizes."""
    need_parts(space, one, other)
    if len(one) != len(other):
        return None
    # By the way back the one part's rows are led to rows with a single 1, and these to the other part's rows.
    return one_then_other(space, back(space, grown_to_turn(space, one)), grown_to_turn(space, other))
