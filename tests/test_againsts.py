import unittest

from common import (MIDDLE, NO_NUMBERS, ODD, SMALL, SPACES, arguments, closure, lots_by_parts, parts_by_lots, refused,
                    refused_without_part, rows_in, some_rows, the_askers_own, whole_part)
from fewspaces import againsts
from fewspaces.againsts import against, bent_parts, is_bent
from fewspaces.counts import all_parts
from fewspaces.errors import NoNumber
from fewspaces.joins import joined, lies_in, met
from fewspaces.spaces import spanned


def product_of(space, row, other):
    return sum(row[k] * other[k] for k in range(space[1])) % space[0]


def lot_against(space, lot):
    """All rows that are against all rows of the lot."""
    return frozenset(row for row in rows_in(space) if all(product_of(space, row, other) == 0 for other in lot))


class Everywhere(unittest.TestCase):
    """Promise 1, and the interface, of againsts.py."""

    def test_names_and_arguments(self):
        self.assertEqual(arguments(againsts.against), ["space", "part"])
        self.assertEqual(arguments(againsts.is_bent), ["space", "part"])
        self.assertEqual(arguments(againsts.bent_parts), ["space", "size"])

    def test_told_lists_are_the_askers_own(self):
        for space in SPACES:
            for size in range(space[1] + 1):
                the_askers_own(self, bent_parts, space, size)


class Against(unittest.TestCase):
    """Promise 40."""

    def test_by_hand(self):
        self.assertEqual(against((3, 2), ((1, 2),)), ((1, 1),))
        self.assertEqual(against((3, 2), ((1, 1),)), ((1, 2),))
        self.assertEqual(against((3, 3), ((1, 2, 2),)), ((1, 0, 1), (0, 1, 2)))
        self.assertEqual(against((2, 2), ((1, 1),)), ((1, 1),))
        self.assertEqual(against((5, 2), ((1, 2),)), ((1, 2),))
        self.assertEqual(against((5, 3), ((0, 1, 3),)), ((1, 0, 0), (0, 1, 3)))
        self.assertEqual(against((2, 6), ((1, 0, 0, 1, 0, 0), (0, 0, 1, 0, 0, 0))),
                         ((1, 0, 0, 1, 0, 0), (0, 1, 0, 0, 0, 0), (0, 0, 0, 0, 1, 0), (0, 0, 0, 0, 0, 1)))

    def test_all_parts_of_small_spaces(self):
        for space in SMALL:
            parts = parts_by_lots(space)
            for lot, part in parts.items():
                self.assertEqual(against(space, part), parts[lot_against(space, lot)], (space, part))

    def test_all_parts_of_middle_spaces(self):
        for space in MIDDLE:
            lots = lots_by_parts(space)
            for part, lot in lots.items():
                self.assertEqual(lots[against(space, part)], lot_against(space, lot), (space, part))

    def test_size_and_back(self):
        for space in SPACES:
            for size in range(space[1] + 1):
                for part in all_parts(space, size)[::7]:
                    other = against(space, part)
                    self.assertEqual(len(other), space[1] - size)
                    self.assertEqual(against(space, other), part)

    def test_parts_of_the_greatest_spaces(self):
        for space in [(2, 5), (2, 6), (3, 4)]:
            for many in range(space[1] + 1):
                for seed in range(4):
                    part = spanned(space, some_rows(space, many, seed))
                    self.assertEqual(closure(space, against(space, part)), lot_against(space, closure(space, part)))

    def test_least_and_whole(self):
        for space in SPACES:
            self.assertEqual(against(space, ()), whole_part(space))
            self.assertEqual(against(space, whole_part(space)), ())

    def test_against_joined_is_met(self):
        for space in [(2, 3), (3, 2), (5, 2)] + MIDDLE:
            lots = lots_by_parts(space)
            for one in list(lots)[::3]:
                for other in lots:
                    both = against(space, joined(space, one, other))
                    self.assertEqual(both, met(space, against(space, one), against(space, other)))
                    self.assertEqual(lots[both], lots[against(space, one)] & lots[against(space, other)])

    def test_refusals(self):
        refused_without_part(self, against)


class Bent(unittest.TestCase):
    """Promise 41."""

    def is_bent_by_words(self, space, lot):
        return all(product_of(space, row, other) == 0 for row in lot for other in lot)

    def test_by_hand(self):
        self.assertIs(is_bent((2, 2), ((1, 1),)), True)
        self.assertIs(is_bent((2, 2), ((1, 0),)), False)
        self.assertIs(is_bent((2, 3), ((1, 1, 1),)), False)
        self.assertIs(is_bent((2, 4), ((1, 0, 1, 0), (0, 1, 0, 1))), True)
        self.assertIs(is_bent((2, 4), ((1, 0, 0, 1), (0, 1, 0, 1))), False)
        self.assertIs(is_bent((3, 2), ((1, 2),)), False)
        self.assertIs(is_bent((3, 3), ((1, 1, 2),)), True)
        self.assertIs(is_bent((3, 4), ((1, 0, 1, 1), (0, 1, 1, 2))), True)
        self.assertIs(is_bent((3, 4), ((1, 0, 1, 1), (0, 1, 1, 1))), False)
        self.assertIs(is_bent((5, 2), ((1, 2),)), True)
        self.assertIs(is_bent((5, 2), ((1, 1),)), False)
        self.assertIs(is_bent((5, 3), ((1, 0, 3),)), True)

    def test_least_and_whole(self):
        for space in SPACES:
            self.assertIs(is_bent(space, ()), True)
            self.assertIs(is_bent(space, whole_part(space)), False)
            self.assertEqual(bent_parts(space, 0), [()])
            self.assertEqual(bent_parts(space, space[1]), [])

    def test_all_parts(self):
        for space in SMALL + MIDDLE:
            for part, lot in lots_by_parts(space).items():
                self.assertIs(is_bent(space, part), self.is_bent_by_words(space, lot), (space, part))
                self.assertIs(is_bent(space, part), lies_in(space, part, against(space, part)))

    def test_all_bent_parts(self):
        for space in SMALL + MIDDLE:
            lots = lots_by_parts(space)
            for size in range(space[1] + 1):
                want = sorted(part for part in lots if len(part) == size and self.is_bent_by_words(space, lots[part]))
                self.assertEqual(bent_parts(space, size), want, (space, size))

    def test_bent_parts_of_the_greatest_spaces(self):
        for space in [(2, 5), (2, 6), (3, 4)]:
            for size in range(space[1] + 1):
                parts = bent_parts(space, size)
                self.assertIs(type(parts), list)
                self.assertEqual(parts, sorted(set(parts)))
                self.assertEqual(parts, [part for part in all_parts(space, size) if is_bent(space, part)])
                for part in parts:
                    self.assertTrue(self.is_bent_by_words(space, closure(space, part)))

    def test_how_many_there_are(self):
        for space, size, many in [((2, 2), 1, 1), ((2, 4), 1, 7), ((2, 4), 2, 3), ((2, 6), 1, 31), ((2, 6), 3, 15),
                                  ((3, 2), 1, 0), ((3, 3), 1, 4), ((3, 4), 2, 8), ((5, 2), 1, 2), ((5, 3), 1, 6)]:
            self.assertEqual(len(bent_parts(space, size)), many, (space, size))
        self.assertEqual(bent_parts((2, 4), 2), [((1, 0, 0, 1), (0, 1, 1, 0)), ((1, 0, 1, 0), (0, 1, 0, 1)),
                                                 ((1, 1, 0, 0), (0, 0, 1, 1))])
        self.assertEqual(bent_parts((5, 2), 1), [((1, 2),), ((1, 3),)])

    def test_sizes_that_are_none(self):
        for p, n in SPACES:
            for size in NO_NUMBERS + ODD + [n + 1, n + 2, -n]:
                refused(self, NoNumber, bent_parts, (p, n), size)

    def test_what_is_no_part(self):
        refused_without_part(self, is_bent)


if __name__ == "__main__":
    unittest.main()
