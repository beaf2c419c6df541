import unittest
from copy import deepcopy
from itertools import combinations, product

from common import (MIDDLE, NO_NUMBERS, NO_PARTS, ODD, SMALL, SPACES, arguments, closure, lots_by_parts, refused,
                    rows_in, whole_part)
from fewspaces import lots
from fewspaces.counts import all_parts
from fewspaces.errors import NoLot, NoNumber, TooMany
from fewspaces.lots import filled, is_apart, is_full, some_full

FEW = [space for space in SPACES if space[1] <= 4]
GREAT = [(2, 5), (2, 6)]
# No lots apart of (2, 2) and size 1.
NO_LOTS = [
    [], [((1, 0),)], [((0, 1),), ((1, 0),)], (((1, 0),), ((0, 1),)), (((1, 0),), ((1, 0),)), ((),), ((), ((1, 0),)),
    (((1, 0), (0, 1)),), (((0, 1),), ((1, 0), (0, 1))), (((0, 1),), [(1, 0)]), (((0, 1),), ([1, 0],)), ((1, 0), (0, 1)),
    (((0, 1),), None), (None, ((0, 1),)), (((0, 1),), ((0, 0),)), (((0, 1),), ((1, 2),)), (((0, 1),), ((1, True),)),
    (((0, 1),), ((1, 0, 0),)), "none", "10", None, True, 0, {}, {((1, 0),): True},
]


def sizes_that_are_none(n):
    return NO_NUMBERS + ODD + [0, n + 1, n + 2, -n]


def lots_miss(space, one, other):
    return one & other == {(0,) * space[1]}


def apart_by_words(space, held, size, parts):
    """Whether a tuple of parts is a lot apart of the size, by the rows that they hold."""
    if any(len(part) != size for part in parts) or list(parts) != sorted(set(parts)):
        return False
    return all(lots_miss(space, held[one], held[other]) for one, other in combinations(parts, 2))


def full_by_words(space, held, parts):
    """Whether each row but that of noughts is held by one of the parts."""
    return all(any(row in held[part] for part in parts) for row in rows_in(space) if any(row))


def filled_by_words(space, held, size, lot):
    """The least part that misses all put to the lot, again and again."""
    found = list(lot)
    while True:
        more = [part for part in held if len(part) == size
                and all(lots_miss(space, held[part], held[other]) for other in found)]
        if not more:
            return tuple(sorted(found))
        found.append(min(more))


class Everywhere(unittest.TestCase):
    """Promise 1, and the interface, of lots.py."""

    def test_names_and_arguments(self):
        self.assertEqual(arguments(lots.is_apart), ["space", "size", "thing"])
        self.assertEqual(arguments(lots.is_full), ["space", "size", "lot"])
        self.assertEqual(arguments(lots.some_full), ["space", "size"])
        self.assertEqual(arguments(lots.filled), ["space", "size", "lot"])

    def test_what_is_handed_in_stays_as_it_was(self):
        for thing in ODD + NO_LOTS:
            before = deepcopy(thing)
            is_apart((2, 2), 1, thing)
            refused(self, NoNumber, is_apart, (2, 2), 0, thing)
            refused(self, NoLot, filled, (2, 2), 1, thing)
            self.assertEqual(thing, before)

    def test_asked_again_the_same_is_told(self):
        for space in FEW:
            for size in range(1, space[1] + 1):
                self.assertEqual(some_full(space, size), some_full(space, size))
                self.assertEqual(filled(space, size, ()), filled(space, size, ()))


class Apart(unittest.TestCase):
    """Promise 80: what is a lot apart."""

    def test_all_tuples_of_few_parts(self):
        for space, most in [((2, 1), 3), ((2, 2), 4), ((2, 3), 3), ((3, 1), 3), ((3, 2), 3), ((5, 1), 3), ((5, 2), 3)]:
            held = lots_by_parts(space)
            for many in range(most + 1):
                for parts in product(held, repeat=many):
                    for size in range(1, space[1] + 1):
                        want = apart_by_words(space, held, size, parts)
                        self.assertIs(is_apart(space, size, parts), want, (space, size, parts))

    def test_all_pairs_of_greater_spaces(self):
        for space in MIDDLE:
            held = lots_by_parts(space)
            for size in range(1, space[1] + 1):
                for parts in product(all_parts(space, size), repeat=2):
                    want = apart_by_words(space, held, size, parts)
                    self.assertIs(is_apart(space, size, parts), want, (space, size, parts))

    def test_one_and_none(self):
        for space in SPACES:
            for size in range(1, space[1] + 1):
                self.assertIs(is_apart(space, size, ()), True)
                for part in all_parts(space, size)[::9]:
                    self.assertIs(is_apart(space, size, (part,)), True)
                    self.assertIs(is_apart(space, size, [part]), False)
                    self.assertIs(is_apart(space, size, part), False)
                    self.assertIs(is_apart(space, size, (part, part)), False)
                    self.assertIs(is_apart(space, size, (list(part),)), False)
                    for other in range(1, space[1] + 1):
                        self.assertIs(is_apart(space, other, (part,)), other == size)

    def test_many_parts(self):
        for space in SPACES:
            points = tuple(all_parts(space, 1))
            self.assertIs(is_apart(space, 1, points), True)
            self.assertIs(is_apart(space, 1, points[::-1]), len(points) == 1)
            self.assertIs(is_apart(space, 1, list(points)), False)
            for k in range(len(points)):
                self.assertIs(is_apart(space, 1, points[:k] + points[k + 1:]), True)
                self.assertIs(is_apart(space, 1, points[:k + 1] + points[k:]), False)
        for space in [(2, 4), (3, 4)]:
            lot = filled(space, 2, ())
            for k in range(len(lot)):
                self.assertIs(is_apart(space, 2, lot[:k] + lot[k + 1:]), True)
                self.assertIs(is_apart(space, 2, lot[k:] + lot[:k]), k == 0)
                for part in all_parts(space, 2):
                    # Of a full lot one alone fits into the gap.
                    thing = tuple(sorted(lot[:k] + (part,) + lot[k + 1:]))
                    held = {other: closure(space, other) for other in thing}
                    self.assertIs(is_apart(space, 2, thing), apart_by_words(space, held, 2, thing))

    def test_any_two_count(self):
        # The first and the third hold a row in common; all others, and all neighbours, miss one another.
        one, other = ((0, 0, 1, 0), (0, 0, 0, 1)), ((1, 0, 0, 0), (0, 1, 0, 0))
        third, last = ((1, 0, 0, 1), (0, 0, 1, 0)), ((1, 0, 1, 0), (0, 1, 1, 1))
        self.assertIs(is_apart((2, 4), 2, (one, other, last)), True)
        self.assertIs(is_apart((2, 4), 2, (other, third, last)), True)
        self.assertIs(is_apart((2, 4), 2, (one, third)), False)
        self.assertIs(is_apart((2, 4), 2, (one, other, third)), False)
        self.assertIs(is_apart((2, 4), 2, (one, other, third, last)), False)

    def test_what_is_no_part_at_any_place(self):
        points = tuple(all_parts((2, 2), 1))
        for thing in ODD + NO_PARTS + [(), ((1, 0), (0, 1))]:
            for k in range(len(points) + 1):
                self.assertIs(is_apart((2, 2), 1, points[:k] + (thing,) + points[k:]), False, (k, thing))
                self.assertIs(is_apart((2, 2), 1, points[:k] + (thing,) + points[k + 1:]), False, (k, thing))
            self.assertIs(is_apart((2, 2), 1, (thing,)), False, thing)

    def test_things_of_other_kinds(self):
        for thing in ODD + NO_LOTS:
            self.assertIs(is_apart((2, 2), 1, thing), False, thing)
            # Among them this one alone is a lot of the whole part.
            self.assertIs(is_apart((2, 2), 2, thing), repr(thing) == repr((((1, 0), (0, 1)),)), thing)
            self.assertIs(is_apart((5, 3), 3, thing), False, thing)

    def test_no_number_comes_ahead_of_all(self):
        for space in SPACES:
            for size in sizes_that_are_none(space[1]):
                for thing in [(), (whole_part(space),), [], None, ((),)]:
                    refused(self, NoNumber, is_apart, space, size, thing)


class Full(unittest.TestCase):
    """Promise 80: what is a full lot apart."""

    def test_all_lots_of_small_spaces(self):
        for space in SMALL:
            held = lots_by_parts(space)
            for size in range(1, space[1] + 1):
                for many in range(7):
                    for parts in combinations(all_parts(space, size), many):
                        if apart_by_words(space, held, size, parts):
                            want = full_by_words(space, held, parts)
                            self.assertIs(is_full(space, size, parts), want, (space, size, parts))

    def test_least_size_and_greatest(self):
        for space in SPACES:
            points = tuple(all_parts(space, 1))
            self.assertIs(is_full(space, 1, points), True)
            self.assertIs(is_full(space, 1, points[1:]), False)
            self.assertIs(is_full(space, 1, points[:-1]), False)
            self.assertIs(is_full(space, space[1], (whole_part(space),)), True)
            for size in range(1, space[1] + 1):
                self.assertIs(is_full(space, size, ()), False)

    def test_lots_of_the_greatest_space(self):
        for size in [2, 3]:
            held = {part: closure((2, 6), part) for part in all_parts((2, 6), size)}
            found = []
            for part in held:
                if all(lots_miss((2, 6), held[part], held[other]) for other in found):
                    found.append(part)
            self.assertEqual(len(found), 63 // (2 ** size - 1))
            self.assertTrue(full_by_words((2, 6), held, found))
            self.assertIs(is_full((2, 6), size, tuple(found)), True)
            for k in range(len(found)):
                self.assertIs(is_full((2, 6), size, tuple(found[:k] + found[k + 1:])), False)

    def test_no_number_then_no_lot(self):
        for space in SPACES:
            for size in sizes_that_are_none(space[1]):
                for thing in [(), (whole_part(space),), [], None]:
                    refused(self, NoNumber, is_full, space, size, thing)
        for thing in ODD + NO_LOTS:
            refused(self, NoLot, is_full, (2, 2), 1, thing)
        for space in SPACES:
            points = tuple(all_parts(space, 1))
            for thing in [list(points), points + points[-1:], points + ((),), points + (None,), [], points[0]]:
                refused(self, NoLot, is_full, space, 1, thing)


class SomeFull(unittest.TestCase):
    """Promise 81."""

    def test_all_spaces_of_few_places_and_all_sizes(self):
        for space in FEW:
            p, n = space
            held = lots_by_parts(space)
            for size in range(1, n + 1):
                lot = some_full(space, size)
                if n % size:
                    self.assertIsNone(lot, (space, size))
                    continue
                self.assertIs(type(lot), tuple)
                self.assertTrue(apart_by_words(space, held, size, lot), (space, size))
                self.assertTrue(full_by_words(space, held, lot), (space, size))
                self.assertIs(is_apart(space, size, lot), True)
                self.assertIs(is_full(space, size, lot), True)
                self.assertEqual(len(lot) * (p ** size - 1), p ** n - 1)

    def test_no_number_then_too_many(self):
        for space in SPACES:
            for size in sizes_that_are_none(space[1]):
                refused(self, NoNumber, some_full, space, size)
        for space in GREAT:
            for size in range(1, space[1] + 1):
                refused(self, TooMany, some_full, space, size)


class Filled(unittest.TestCase):
    """Promise 82."""

    def check(self, space, held, size, lot):
        told = filled(space, size, lot)
        self.assertIs(type(told), tuple)
        self.assertEqual(told, filled_by_words(space, held, size, lot), (space, size, lot))
        self.assertIs(is_apart(space, size, told), True)
        self.assertLessEqual(set(lot), set(told))
        self.assertEqual(filled(space, size, told), told)

    def test_by_hand(self):
        self.assertEqual(filled((2, 2), 1, ()), (((0, 1),), ((1, 0),), ((1, 1),)))
        self.assertEqual(filled((2, 2), 1, (((1, 1),),)), (((0, 1),), ((1, 0),), ((1, 1),)))
        self.assertEqual(filled((2, 2), 2, ()), (((1, 0), (0, 1)),))
        self.assertEqual(filled((2, 3), 2, (((1, 0, 1), (0, 1, 1)),)), (((1, 0, 1), (0, 1, 1)),))
        self.assertEqual(filled((2, 3), 2, ()), (((0, 1, 0), (0, 0, 1)),))

    def test_empty_lots_single_parts_and_pairs(self):
        for space in FEW:
            held = lots_by_parts(space)
            for size in range(1, space[1] + 1):
                self.check(space, held, size, ())
                parts = all_parts(space, size)
                for part in parts[::1 if len(parts) < 50 else 11]:
                    self.check(space, held, size, (part,))
                pairs = [pair for pair in combinations(parts, 2) if apart_by_words(space, held, size, pair)]
                for pair in pairs[::len(pairs) // 12 + 1]:
                    self.check(space, held, size, pair)

    def test_all_lots_of_small_spaces(self):
        for space in [(2, 2), (2, 3), (3, 2), (5, 2)]:
            held = lots_by_parts(space)
            for size in range(1, space[1] + 1):
                for many in range(8):
                    for lot in combinations(all_parts(space, size), many):
                        if apart_by_words(space, held, size, lot):
                            self.check(space, held, size, lot)

    def test_full_lots_stay_as_they_are(self):
        for space in FEW:
            for size in range(1, space[1] + 1):
                if space[1] % size == 0:
                    lot = some_full(space, size)
                    self.assertEqual(filled(space, size, lot), lot)

    def test_no_number_then_no_lot_then_too_many(self):
        for space in SPACES:
            for size in sizes_that_are_none(space[1]):
                for thing in [(), (whole_part(space),), [], None]:
                    refused(self, NoNumber, filled, space, size, thing)
            points = tuple(all_parts(space, 1))
            for thing in [list(points), points + points[-1:], points + ((),), points + (None,), [], points[0], None]:
                refused(self, NoLot, filled, space, 1, thing)
        for thing in ODD + NO_LOTS:
            refused(self, NoLot, filled, (2, 2), 1, thing)
        for space in GREAT:
            for size in range(1, space[1] + 1):
                refused(self, TooMany, filled, space, size, ())
                refused(self, TooMany, filled, space, size, (all_parts(space, size)[0],))


if __name__ == "__main__":
    unittest.main()
