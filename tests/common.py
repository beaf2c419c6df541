"""What the tests have in common: things of anything, refusals, and sums done anew, by the words of the document."""

from copy import deepcopy
from inspect import signature
from itertools import product

from fewspaces import errors
from fewspaces.counts import all_parts

SPACES = [(2, n) for n in range(1, 7)] + [(3, n) for n in range(1, 5)] + [(5, n) for n in range(1, 4)]
SMALL = [(2, 1), (2, 2), (2, 3), (3, 1), (3, 2), (5, 1), (5, 2)]
MIDDLE = [(2, 4), (3, 3), (5, 3)]
REFUSALS = ["NoRow", "NoPart", "NoNumber", "NoHeads", "NotBeside", "NotIn", "NoTurn", "NoLot", "TooMany", "BadNote"]

# None of these is a space, a row, a part, a tuple of places or a whole number of any bounds in use.
ODD = [
    True, False, None, "", "0", "2", "none", "(2, 1)", "10/01", [], [0], [1, 0], [[1, 0], [0, 1]], [(1, 0), (0, 1)],
    [2, 1], {}, {2: 1}, {(1, 0): (0, 1)}, {"p": 2, "n": 1}, -1, -(10 ** 29), 10 ** 29, (None,), ("",), (True,), (False,),
    ([],), ({},), (-1,), (10 ** 29,), ("2", "1"), ("2", 1), (2, "1"), (None, None), (True, True), (False, False),
    (0, -1), (-1, 0), ([0, 1], [1, 0]), ([1, 0], (0, 1)), ((1, 0), [0, 1]), ((1, 0), None), ((1, 0), "01"),
    ((True, False), (False, True)), ((True, 0), (0, 1)), ((1, 0), (0, True)), ((1, False),), ((1, 0), (0, 1), {}),
    (((1, 0), (0, 1)),), ((((((),),),),),), ((((([2],),),),),), [[[[[[]]]]]], [0] * 999, (0,) * 999, (1,) * 999,
    {k: None for k in range(400)}, ((),), ((), ()),
]

# No whole numbers of the bounds in use.
NO_NUMBERS = [True, False, None, "", "0", "1", [], [0], (), (0,), {}, {0: 1}, -1, -(10 ** 29), 10 ** 29]
# None of these is a part of (2, 2).
NO_PARTS = [((0, 1), (1, 0)), ((0, 0),), ((1, 1), (0, 1)), ((1, 0), (1, 0)), [(1, 0)], ([1, 0],), ((1, 0, 0),), ((2, 0),)]


# None of these is a turn of (2, 2): of too few rows and too many, of rows that span too little, of other kinds within.
NO_TURNS = [
    (), ((1, 0),), ((1, 0), (0, 1), (1, 1)), ((1, 0), (1, 0)), ((1, 0), (0, 0)), ((0, 0), (0, 0)), [(1, 0), (0, 1)],
    ([1, 0], (0, 1)), ((1, 0), [0, 1]), ((1, 0), (0, 2)), ((1, 0), (0, -1)), ((1, 0), (0, True)), ((1, 0), (0, 1, 0)),
    ((1, 0), (1,)), ((1, 0), ()), "10/01",
]


def refused(case, error, deed, *things):
    """The deed is refused with just this class, and none of the others."""
    with case.assertRaises(ValueError, msg=repr((deed.__name__, things))) as caught:
        deed(*things)
    case.assertIs(type(caught.exception), error, (deed.__name__, things))
    case.assertIsInstance(caught.exception, errors.SpaceError)
    for name in REFUSALS:
        case.assertEqual(isinstance(caught.exception, getattr(errors, name)), error.__name__ == name)


def rows_in(space):
    """All rows of a space, rising."""
    p, n = space
    return list(product(range(p), repeat=n))


def closure(space, rows):
    """All rows that come of the rows, each times some number, added: a frozenset."""
    p, n = space
    found = {(0,) * n}
    for row in rows:
        found = {tuple((a + k * b) % p for a, b in zip(one, row)) for one in found for k in range(p)}
    return frozenset(found)


def first_place(row):
    """The head by the words of the document; None of a row of noughts."""
    places = [place for place in range(len(row)) if row[place] != 0]
    return places[0] if places else None


def is_part_by_words(rows):
    """Whether a tuple of rows is a part, each clause of the document by itself."""
    found = [first_place(row) for row in rows]
    if None in found:
        return False
    if any(row[head] != 1 for row, head in zip(rows, found)):
        return False
    if any(not found[k] < found[k + 1] for k in range(len(found) - 1)):
        return False
    return all(rows[k][found[j]] == 0 for k in range(len(rows)) for j in range(len(rows)) if k != j)


def parts_by_words(space):
    """All parts of a small space, found by going through all tuples of rows: a dict of rising lists by size."""
    p, n = space
    rows = rows_in(space)
    return {size: [some for some in product(rows, repeat=size) if is_part_by_words(some)] for size in range(n + 1)}


def parts_by_lots(space):
    """All parts of a small space, those of lesser size ahead: a dict by the lots of rows that they hold."""
    return {closure(space, part): part for parts in parts_by_words(space).values() for part in parts}


def lots_by_parts(space):
    """The lot of rows that each part of a space holds: a dict by the parts, those of lesser size ahead."""
    return {part: closure(space, part) for size in range(space[1] + 1) for part in all_parts(space, size)}


def refused_without_two_parts(case, deed, *more):
    """The deed of two parts is refused with NoPart where either, or both, is none of (2, 2), whatever comes behind."""
    for thing in ODD + NO_PARTS:
        before = deepcopy(thing)
        for part in [(), ((1, 0),), ((1, 1),), ((1, 0), (0, 1))]:
            refused(case, errors.NoPart, deed, (2, 2), thing, part, *more)
            refused(case, errors.NoPart, deed, (2, 2), part, thing, *more)
        refused(case, errors.NoPart, deed, (2, 2), thing, thing, *more)
        refused(case, errors.NoPart, deed, (2, 2), thing, None, *more)
        case.assertEqual(thing, before)


def refused_without_part(case, deed):
    """The deed of a part is refused with NoPart where it is none of (2, 2)."""
    for thing in ODD + NO_PARTS:
        before = deepcopy(thing)
        refused(case, errors.NoPart, deed, (2, 2), thing)
        case.assertEqual(thing, before)


def arguments(deed):
    """What the deed calls its arguments."""
    return list(signature(deed).parameters)


def the_askers_own(case, deed, *things):
    """Lists that are told are never one, and one that was changed is told anew as it was."""
    one, other = deed(*things), deed(*things)
    case.assertIs(type(one), list)
    case.assertIsNot(one, other)
    case.assertEqual(one, other)
    kept = tuple(one)
    one.clear()
    other.append("more")
    case.assertEqual(deed(*things), list(kept))


def whole_part(space):
    """The part that holds all rows."""
    p, n = space
    return tuple(tuple(1 if k == j else 0 for j in range(n)) for k in range(n))


def rising_tuples(n):
    """All rising tuples of places from 0 to n - 1, none among them."""
    found = [()]
    for place in range(n):
        found = found + [some + (place,) for some in found]
    return found


def some_rows(space, many, seed):
    """So many rows of the space, the same for the same seed."""
    p, n = space
    found = []
    at = seed
    for k in range(many):
        row = []
        for j in range(n):
            at = (at * 1103515245 + 12345) % 2147483648
            row.append(at // 65536 % p)
        found.append(tuple(row))
    return found


def led_by_words(space, turn, row):
    """The turn's rows, each times the number at its place in the row, added."""
    p, n = space
    return tuple(sum(row[k] * turn[k][j] for k in range(n)) % p for j in range(n))


def turns_by_words(space):
    """All turns of a small space, found by going through all tuples of n rows."""
    p, n = space
    return [rows for rows in product(rows_in(space), repeat=n) if len(closure(space, rows)) == p ** n]


def some_turns(space, many):
    """So many turns of the space, the same each time: that which leads each row to itself, and others."""
    p, n = space
    found = [whole_part(space)]
    seed = 0
    while len(found) < many:
        rows = tuple(some_rows(space, n, seed))
        if len(closure(space, rows)) == p ** n:
            found.append(rows)
        seed += 1
    return found


def refused_without_turn(case, deed, *more):
    """The deed of a turn is refused with NoTurn where it is none of (2, 2), whatever comes behind."""
    for thing in ODD + NO_TURNS:
        before = deepcopy(thing)
        refused(case, errors.NoTurn, deed, (2, 2), thing, *more)
        case.assertEqual(thing, before)
