import unittest

from common import (MIDDLE, SMALL, SPACES, arguments, closure, lots_by_parts, parts_by_lots, refused_without_two_parts,
                    rows_in, some_rows, whole_part)
from fewspaces import joins
from fewspaces.joins import first_beyond, joined, lies_in, met
from fewspaces.spaces import spanned


def some_pairs(space):
    """Pairs of parts of a great space: of unlike sizes, and with something in common."""
    p, n = space
    for seed in range(12):
        for many in range(n + 1):
            for shared in range(3):
                rows = some_rows(space, n + 2, seed * 7 + many)
                yield spanned(space, rows[:many]), spanned(space, rows[max(many - shared, 0):])


class Everywhere(unittest.TestCase):
    """Promise 1, and the interface, of joins.py."""

    def test_names_and_arguments(self):
        for name in ["joined", "met", "lies_in", "first_beyond"]:
            self.assertEqual(arguments(getattr(joins, name)), ["space", "one", "other"])

    def test_asked_again_the_same_is_told(self):
        one, other = ((1, 0, 1), (0, 1, 1)), ((1, 1, 1),)
        for deed in [joined, met, lies_in, first_beyond]:
            self.assertEqual(deed((2, 3), one, other), deed((2, 3), one, other))

    def test_what_was_told_may_be_handed_in_again(self):
        for space in SPACES:
            for one, other in some_pairs(space):
                both, common = joined(space, one, other), met(space, one, other)
                self.assertEqual(joined(space, both, common), both)
                self.assertEqual(met(space, both, common), common)
                self.assertIs(lies_in(space, common, both), True)


class JoinedAndMet(unittest.TestCase):
    """Promise 20."""

    def test_by_hand(self):
        self.assertEqual(joined((2, 3), ((1, 1, 0),), ((0, 1, 1),)), ((1, 0, 1), (0, 1, 1)))
        self.assertEqual(met((2, 3), ((1, 0, 0), (0, 1, 0)), ((1, 0, 1), (0, 1, 1))), ((1, 1, 0),))
        self.assertEqual(met((3, 2), ((1, 1),), ((1, 2),)), ())
        self.assertEqual(joined((3, 2), ((1, 1),), ((1, 2),)), ((1, 0), (0, 1)))
        self.assertEqual(met((5, 3), ((1, 0, 0), (0, 1, 3)), ((1, 0, 4), (0, 1, 0))), ((1, 3, 4),))

    def test_all_pairs_of_small_spaces(self):
        for space in SMALL:
            parts = parts_by_lots(space)
            for one, mine in parts.items():
                for other, its in parts.items():
                    least = min([lot for lot in parts if one | other <= lot], key=len)
                    self.assertEqual(joined(space, mine, its), parts[least], (space, mine, its))
                    self.assertEqual(met(space, mine, its), parts[one & other], (space, mine, its))

    def test_all_pairs_of_middle_spaces(self):
        for space in MIDDLE:
            lots = lots_by_parts(space)
            for one in lots:
                for other in lots:
                    both, common = joined(space, one, other), met(space, one, other)
                    self.assertEqual(lots[both], closure(space, one + other), (space, one, other))
                    self.assertEqual(lots[common], lots[one] & lots[other], (space, one, other))
                    self.assertEqual(len(one) + len(other), len(both) + len(common))

    def test_pairs_of_the_greatest_spaces(self):
        for space in SPACES:
            for one, other in some_pairs(space):
                both, common = joined(space, one, other), met(space, one, other)
                self.assertEqual(both, spanned(space, one + other))
                self.assertEqual(closure(space, both), closure(space, one + other))
                self.assertEqual(closure(space, common), closure(space, one) & closure(space, other))
                self.assertEqual(common, spanned(space, sorted(closure(space, common))))
                self.assertEqual(len(one) + len(other), len(both) + len(common))
                self.assertEqual(joined(space, other, one), both)
                self.assertEqual(met(space, other, one), common)

    def test_least_whole_and_itself(self):
        for space in SPACES:
            whole = whole_part(space)
            self.assertEqual(joined(space, (), ()), ())
            self.assertEqual(met(space, (), ()), ())
            self.assertEqual(joined(space, whole, whole), whole)
            self.assertEqual(met(space, whole, whole), whole)
            for many in range(space[1] + 1):
                part = spanned(space, some_rows(space, many, many))
                self.assertEqual(joined(space, part, part), part)
                self.assertEqual(met(space, part, part), part)
                self.assertEqual([joined(space, part, ()), joined(space, (), part)], [part, part])
                self.assertEqual([met(space, part, ()), met(space, (), part)], [(), ()])
                self.assertEqual([joined(space, part, whole), joined(space, whole, part)], [whole, whole])
                self.assertEqual([met(space, part, whole), met(space, whole, part)], [part, part])

    def test_refusals(self):
        refused_without_two_parts(self, joined)
        refused_without_two_parts(self, met)


class LiesIn(unittest.TestCase):
    """Promise 21."""

    def test_by_hand(self):
        plane = ((1, 0, 1), (0, 1, 1))
        self.assertIs(lies_in((2, 3), ((1, 1, 0),), plane), True)
        self.assertIs(lies_in((2, 3), plane, ((1, 1, 0),)), False)
        self.assertIs(lies_in((2, 3), ((1, 1, 1),), plane), False)
        self.assertIsNone(first_beyond((2, 3), ((1, 1, 0),), plane))
        self.assertEqual(first_beyond((2, 3), plane, ((1, 1, 0),)), (0, 1, 1))
        self.assertEqual(first_beyond((2, 3), plane, ((0, 1, 1),)), (1, 0, 1))
        self.assertEqual(first_beyond((3, 2), ((1, 0), (0, 1)), ((0, 1),)), (1, 0))
        self.assertEqual(first_beyond((5, 3), ((1, 0, 4), (0, 1, 3)), ((0, 1, 3),)), (1, 0, 4))

    def test_all_pairs(self):
        for space in SMALL + MIDDLE:
            lots = lots_by_parts(space)
            for one in lots:
                for other in lots:
                    beyond = sorted(lots[one] - lots[other])
                    self.assertIs(lies_in(space, one, other), not beyond, (space, one, other))
                    self.assertEqual(first_beyond(space, one, other), beyond[0] if beyond else None)

    def test_pairs_of_the_greatest_spaces(self):
        for space in SPACES:
            for one, other in some_pairs(space):
                beyond = sorted(closure(space, one) - closure(space, other))
                self.assertIs(lies_in(space, one, other), not beyond)
                self.assertEqual(first_beyond(space, one, other), beyond[0] if beyond else None)
                self.assertIs(lies_in(space, one, joined(space, one, other)), True)
                self.assertIsNone(first_beyond(space, one, joined(space, other, one)))

    def test_least_whole_and_itself(self):
        for space in SPACES:
            p, n = space
            whole = whole_part(space)
            self.assertIs(lies_in(space, (), whole), True)
            self.assertIs(lies_in(space, whole, ()), False)
            self.assertEqual(first_beyond(space, whole, ()), rows_in(space)[1])
            for part in [(), whole, spanned(space, some_rows(space, 1, 3))]:
                self.assertIs(lies_in(space, part, part), True)
                self.assertIsNone(first_beyond(space, part, part))
                self.assertIsNone(first_beyond(space, (), part))
                self.assertIsNone(first_beyond(space, part, whole))

    def test_a_row_is_told_as_a_tuple(self):
        self.assertIs(type(first_beyond((2, 2), ((1, 0), (0, 1)), ())), tuple)

    def test_refusals(self):
        refused_without_two_parts(self, lies_in)
        refused_without_two_parts(self, first_beyond)


if __name__ == "__main__":
    unittest.main()
