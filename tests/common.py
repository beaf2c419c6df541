"""What the tests have in common: things of anything, refusals, and sums done anew, by the words of the document."""

from itertools import product

from fewspaces import errors

SPACES = [(2, n) for n in range(1, 7)] + [(3, n) for n in range(1, 5)] + [(5, n) for n in range(1, 4)]
SMALL = [(2, 1), (2, 2), (2, 3), (3, 1), (3, 2), (5, 1), (5, 2)]
REFUSALS = ["NoRow", "NoPart", "NoNumber", "NoHeads", "NotBeside", "NotIn", "NoTurn", "NoLot", "TooMany", "BadNote"]

# None of these is a space, a row, a part, a tuple of places or a whole number of any bounds in use.
ODD = [
    True, False, None, "", "0", "2", "none", "(2, 1)", "10/01", [], [0], [1, 0], [[1, 0], [0, 1]], [(1, 0), (0, 1)],
    [2, 1], {}, {2: 1}, {(1, 0): (0, 1)}, {"p": 2, "n": 1}, -1, -(10 ** 29), 10 ** 29, (None,), ("",), (True,), (False,),
    ([],), ({},), (-1,), (10 ** 29,), ("2", "1"), ("2", 1), (2, "1"), (None, None), (True, True), (False, False),
    (0, -1), (-1, 0), ([0, 1], [1, 0]), ([1, 0], (0, 1)), ((1, 0), [0, 1]), ((1, 0), None), ((1, 0), "01"),
    ((True, False), (False, True)), ((True, 0), (0, 1)), ((1, 0), (0, True)), ((1, False),), ((1, 0), (0, 1), {}),
    (((1, 0), (0, 1)),), ((((((),),),),),), ((((([2],),),),),), [[[[[[]]]]]], [0] * 999, (0,) * 999, (1,) * 999,
    {k: None for k in range(400)}, ((),), ((), ()),
]


def refused(case, error, deed, *things):
    """The deed is refused with just this class, and none of the others."""
    with case.assertRaises(ValueError, msg=repr((deed.__name__, things))) as caught:
        deed(*things)
    case.assertIs(type(caught.exception), error, (deed.__name__, things))
    case.assertIsInstance(caught.exception, errors.SpaceError)
    for name in REFUSALS:
        case.assertEqual(isinstance(caught.exception, getattr(errors, name)), error.__name__ == name)


def rows_in(space):
    """All rows of a space, rising."""
    p, n = space
    return list(product(range(p), repeat=n))


def closure(space, rows):
    """All rows that come of the rows, each times some number, added: a frozenset."""
    p, n = space
    found = {(0,) * n}
    for row in rows:
        found = {tuple((a + k * b) % p for a, b in zip(one, row)) for one in found for k in range(p)}
    return frozenset(found)


def first_place(row):
    """The head by the words of the document; None of a row of noughts."""
    places = [place for place in range(len(row)) if row[place] != 0]
    return places[0] if places else None


def is_part_by_words(rows):
    """Whether a tuple of rows is a part, each clause of the document by itself."""
    found = [first_place(row) for row in rows]
    if None in found:
        return False
    if any(row[head] != 1 for row, head in zip(rows, found)):
        return False
    if any(not found[k] < found[k + 1] for k in range(len(found) - 1)):
        return False
    return all(rows[k][found[j]] == 0 for k in range(len(rows)) for j in range(len(rows)) if k != j)


def parts_by_words(space):
    """All parts of a small space, found by going through all tuples of rows: a dict of rising lists by size."""
    p, n = space
    rows = rows_in(space)
    return {size: [some for some in product(rows, repeat=size) if is_part_by_words(some)] for size in range(n + 1)}


def whole_part(space):
    """The part that holds all rows."""
    p, n = space
    return tuple(tuple(1 if k == j else 0 for j in range(n)) for k in range(n))


def rising_tuples(n):
    """All rising tuples of places from 0 to n - 1, none among them."""
    found = [()]
    for place in range(n):
        found = found + [some + (place,) for some in found]
    return found


def some_rows(space, many, seed):
    """So many rows of the space, the same for the same seed."""
    p, n = space
    found = []
    at = seed
    for k in range(many):
        row = []
        for j in range(n):
            at = (at * 1103515245 + 12345) % 2147483648
            row.append(at // 65536 % p)
        found.append(tuple(row))
    return found
