import unittest

from common import (MIDDLE, ODD, SMALL, SPACES, arguments, closure, lots_by_parts, refused, refused_without_part,
                    refused_without_two_parts, rows_in, some_rows, the_askers_own, whole_part)
from fewspaces import misses
from fewspaces.counts import all_parts
from fewspaces.errors import NoPart, NoRow, NotBeside
from fewspaces.misses import all_beside, are_beside, miss, parted
from fewspaces.spaces import spanned


def plus(space, row, other):
    return tuple((row[k] + other[k]) % space[0] for k in range(space[1]))


def lots_miss(space, one, other):
    return one & other == {(0,) * space[1]}


def lots_beside(space, one, other):
    return lots_miss(space, one, other) and {plus(space, a, b) for a in one for b in other} == set(rows_in(space))


class Everywhere(unittest.TestCase):
    """Promise 1, and the interface, of misses.py."""

    def test_names_and_arguments(self):
        self.assertEqual(arguments(misses.miss), ["space", "one", "other"])
        self.assertEqual(arguments(misses.are_beside), ["space", "one", "other"])
        self.assertEqual(arguments(misses.all_beside), ["space", "part"])
        self.assertEqual(arguments(misses.parted), ["space", "one", "other", "row"])

    def test_told_lists_are_the_askers_own(self):
        for space in SMALL:
            for part in lots_by_parts(space):
                the_askers_own(self, all_beside, space, part)

    def test_what_was_told_may_be_handed_in_again(self):
        one = ((1, 0, 1), (0, 1, 1))
        for other in all_beside((2, 3), one):
            for row in rows_in((2, 3)):
                mine, its = parted((2, 3), one, other, row)
                self.assertEqual(parted((2, 3), one, other, mine), (mine, (0, 0, 0)))
                self.assertEqual(parted((2, 3), one, other, its), ((0, 0, 0), its))


class Misses(unittest.TestCase):
    """Promise 50."""

    def test_by_hand(self):
        self.assertIs(miss((2, 3), ((1, 0, 0),), ((0, 1, 0),)), True)
        self.assertIs(are_beside((2, 3), ((1, 0, 0),), ((0, 1, 0),)), False)
        self.assertIs(are_beside((2, 3), ((1, 0, 0),), ((0, 1, 0), (0, 0, 1))), True)
        self.assertIs(miss((2, 3), ((1, 1, 0),), ((1, 0, 1), (0, 1, 1))), False)
        self.assertIs(are_beside((2, 3), ((1, 1, 0),), ((1, 0, 1), (0, 1, 1))), False)
        self.assertIs(miss((2, 3), ((1, 0, 0), (0, 1, 0)), ((1, 0, 1), (0, 1, 1))), False)
        self.assertIs(are_beside((3, 2), ((1, 1),), ((1, 2),)), True)
        self.assertEqual(all_beside((2, 2), ((1, 0),)), [((0, 1),), ((1, 1),)])
        self.assertEqual(all_beside((3, 2), ((0, 1),)), [((1, 0),), ((1, 1),), ((1, 2),)])

    def test_all_pairs(self):
        for space in SMALL + MIDDLE:
            lots = lots_by_parts(space)
            for one in lots:
                for other in lots:
                    missing = lots_miss(space, lots[one], lots[other])
                    beside = missing and len(closure(space, one + other)) == space[0] ** space[1]
                    self.assertIs(miss(space, one, other), missing, (space, one, other))
                    self.assertIs(are_beside(space, one, other), beside, (space, one, other))

    def test_all_pairs_of_small_spaces_by_sums(self):
        for space in SMALL:
            lots = lots_by_parts(space)
            for one in lots:
                for other in lots:
                    self.assertIs(are_beside(space, one, other), lots_beside(space, lots[one], lots[other]))

    def test_pairs_of_the_greatest_spaces(self):
        for space in [(2, 5), (2, 6), (3, 4)]:
            for many in range(space[1] + 1):
                for more in range(space[1] + 1):
                    one = spanned(space, some_rows(space, many, 2 + more))
                    other = spanned(space, some_rows(space, more, 9 + many))
                    mine, its = closure(space, one), closure(space, other)
                    self.assertIs(miss(space, one, other), lots_miss(space, mine, its))
                    beside = lots_miss(space, mine, its) and len(mine) * len(its) == space[0] ** space[1]
                    self.assertIs(are_beside(space, one, other), beside)

    def test_all_beside_a_part(self):
        for space in SMALL + MIDDLE:
            p, n = space
            lots = lots_by_parts(space)
            for part in lots:
                found = all_beside(space, part)
                self.assertIs(type(found), list)
                want = [other for other in lots
                        if lots_miss(space, lots[part], lots[other]) and len(closure(space, part + other)) == p ** n]
                self.assertEqual(found, sorted(want), (space, part))
                self.assertEqual(len(found), p ** (len(part) * (n - len(part))))

    def test_all_beside_parts_of_all_spaces(self):
        for p, n in SPACES:
            for size in range(n + 1):
                parts = all_parts((p, n), size)
                for part in [parts[0], parts[len(parts) // 2], parts[-1]]:
                    found = all_beside((p, n), part)
                    self.assertEqual(len(found), p ** (size * (n - size)))
                    self.assertEqual(found, sorted(set(found)))
                    for other in found:
                        self.assertTrue(len(other) == n - size and are_beside((p, n), part, other))

    def test_least_and_whole(self):
        for space in SPACES:
            whole = whole_part(space)
            self.assertEqual(all_beside(space, ()), [whole])
            self.assertEqual(all_beside(space, whole), [()])
            self.assertIs(miss(space, (), ()), True)
            self.assertIs(miss(space, (), whole), True)
            self.assertIs(miss(space, whole, ()), True)
            self.assertIs(miss(space, whole, whole), False)
            self.assertIs(are_beside(space, (), ()), False)
            self.assertIs(are_beside(space, (), whole), True)
            self.assertIs(are_beside(space, whole, ()), True)
            self.assertIs(are_beside(space, whole, whole), False)

    def test_refusals(self):
        refused_without_two_parts(self, miss)
        refused_without_two_parts(self, are_beside)
        refused_without_part(self, all_beside)


class Parted(unittest.TestCase):
    """Promise 51."""

    def test_by_hand(self):
        self.assertEqual(parted((2, 2), ((1, 0),), ((1, 1),), (0, 1)), ((1, 0), (1, 1)))
        self.assertEqual(parted((2, 2), ((1, 1),), ((1, 0),), (0, 1)), ((1, 1), (1, 0)))
        self.assertEqual(parted((3, 2), ((1, 1),), ((1, 2),), (1, 0)), ((2, 2), (2, 1)))
        self.assertEqual(parted((5, 2), ((1, 2),), ((0, 1),), (3, 3)), ((3, 1), (0, 2)))

    def test_all_rows_of_small_spaces(self):
        for space in SMALL + [(2, 4), (3, 3)]:
            lots = lots_by_parts(space)
            for one in lots:
                for other in all_beside(space, one):
                    pairs = {plus(space, a, b): (a, b) for a in lots[one] for b in lots[other]}
                    for row in rows_in(space):
                        self.assertEqual(parted(space, one, other, row), pairs[row], (space, one, other, row))

    def test_rows_of_the_greatest_spaces(self):
        for space in [(2, 6), (3, 4), (5, 3)]:
            for many in range(space[1] + 1):
                one = spanned(space, some_rows(space, many, many + 1))
                mine = closure(space, one)
                for other in all_beside(space, one)[::50]:
                    its = closure(space, other)
                    for row in some_rows(space, 6, many) + [(0,) * space[1]]:
                        told = parted(space, one, other, row)
                        self.assertIs(type(told), tuple)
                        first, second = told
                        self.assertTrue(first in mine and second in its)
                        self.assertEqual(plus(space, first, second), row)

    def test_least_and_whole(self):
        for space in SPACES:
            noughts = (0,) * space[1]
            for row in rows_in(space):
                self.assertEqual(parted(space, (), whole_part(space), row), (noughts, row))
                self.assertEqual(parted(space, whole_part(space), (), row), (row, noughts))

    def test_no_part_comes_first(self):
        for row in [(0, 1), (0, 2), None, [0, 1]]:
            refused_without_two_parts(self, parted, row)

    def test_not_beside_comes_ahead_of_no_row(self):
        lots = lots_by_parts((2, 2))
        for one in lots:
            for other in lots:
                if not lots_beside((2, 2), lots[one], lots[other]):
                    for row in [(0, 1), (0, 0), (0, 2), None, [0, 1], ()]:
                        refused(self, NotBeside, parted, (2, 2), one, other, row)
        # Sizes that come to n, with something in common; and parts that miss one another, but leave rows over.
        refused(self, NotBeside, parted, (2, 3), ((1, 1, 0),), ((1, 0, 1), (0, 1, 1)), (0, 0, 0))
        refused(self, NotBeside, parted, (2, 3), ((1, 0, 0),), ((0, 1, 0),), (0, 0, 0))
        refused(self, NoPart, parted, (2, 3), ((1, 1, 0),), ((0, 1, 1), (1, 0, 1)), (0, 0))

    def test_what_is_no_row(self):
        for thing in ODD + [(0, 2), (0, -1), (0,), (0, 0, 0), [0, 1], (True, 0), ()]:
            refused(self, NoRow, parted, (2, 2), ((1, 0),), ((1, 1),), thing)
            refused(self, NoRow, parted, (2, 2), (), ((1, 0), (0, 1)), thing)
            refused(self, NoRow, parted, (2, 2), ((1, 0), (0, 1)), (), thing)


if __name__ == "__main__":
    unittest.main()
