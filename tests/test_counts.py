import inspect
import unittest

from common import (NO_NUMBERS, NO_PARTS, ODD, SMALL, SPACES, first_place, is_part_by_words, parts_by_words, refused,
                    rising_tuples, whole_part)
from fewspaces import counts
from fewspaces.counts import all_parts, box, heads, number_of, part_of, with_heads
from fewspaces.errors import NoHeads, NoNumber, NoPart


def box_by_product(p, n, k):
    """The box by another way: how many rows may be chosen one behind the other, by how many do for one part."""
    above = below = 1
    for j in range(k):
        above *= p ** n - p ** j
        below *= p ** k - p ** j
    return above // below


class Everywhere(unittest.TestCase):
    """Promise 1, and the interface, of counts.py."""

    def test_names_and_arguments(self):
        told = {
            "box": ["p", "n", "k"], "all_parts": ["space", "size"], "number_of": ["space", "part"],
            "part_of": ["space", "size", "number"], "heads": ["space", "part"], "with_heads": ["space", "places"],
        }
        for name, arguments in told.items():
            self.assertEqual(list(inspect.signature(getattr(counts, name)).parameters), arguments)

    def test_told_lists_are_the_askers_own(self):
        for deed, things in [(all_parts, ((2, 3), 1)), (all_parts, ((2, 3), 0)), (with_heads, ((2, 3), (1,))),
                             (with_heads, ((2, 3), ()))]:
            one, other = deed(*things), deed(*things)
            kept = tuple(one)
            self.assertIsNot(one, other)
            self.assertEqual(one, other)
            one.clear()
            other.append("more")
            self.assertEqual(deed(*things), list(kept))

    def test_what_is_handed_in_stays_as_it_was(self):
        for thing in [[0, 1], {0: [1]}, ([0], 1)]:
            before = repr(thing)
            refused(self, NoHeads, with_heads, (2, 3), thing)
            refused(self, NoPart, heads, (2, 3), thing)
            refused(self, NoPart, number_of, (2, 3), thing)
            refused(self, NoNumber, all_parts, (2, 3), thing)
            refused(self, NoNumber, part_of, (2, 3), thing, thing)
            refused(self, NoNumber, box, thing, thing, thing)
            self.assertEqual(repr(thing), before)


class Box(unittest.TestCase):
    """Promise 30."""

    def test_by_hand(self):
        for p, n, k, want in [(2, 0, 0, 1), (2, 1, 0, 1), (2, 1, 1, 1), (2, 2, 1, 3), (2, 3, 1, 7), (2, 3, 2, 7),
                              (2, 4, 2, 35), (2, 6, 3, 1395), (3, 2, 1, 4), (3, 4, 2, 130), (5, 2, 1, 6), (5, 3, 1, 31),
                              (5, 3, 2, 31), (3, 0, 0, 1), (5, 0, 0, 1)]:
            self.assertEqual(box(p, n, k), want, (p, n, k))

    def test_the_triangle(self):
        for p in [2, 3, 5]:
            lines = [[box(p, n, k) for k in range(n + 1)] for n in range(41)]
            for n in range(41):
                self.assertEqual(lines[n][0], 1)
                self.assertEqual(lines[n][n], 1)
                for k in range(1, n):
                    self.assertEqual(lines[n][k], lines[n - 1][k - 1] + p ** k * lines[n - 1][k])

    def test_by_another_way(self):
        for p in [2, 3, 5]:
            for n in range(41):
                for k in range(n + 1):
                    self.assertIs(type(box(p, n, k)), int)
                    self.assertEqual(box(p, n, k), box_by_product(p, n, k))

    def test_refusals(self):
        for p in NO_NUMBERS + [0, 1, 4, 6, 7, (2, 1)]:
            refused(self, NoNumber, box, p, 3, 1)
        for n in NO_NUMBERS + [41, 42]:
            refused(self, NoNumber, box, 2, n, 0)
            refused(self, NoNumber, box, 2, n, n)
        for k in NO_NUMBERS + [4, 5]:
            refused(self, NoNumber, box, 5, 3, k)
        for n in range(41):
            refused(self, NoNumber, box, 3, n, n + 1)
            refused(self, NoNumber, box, 3, n, -1)
        for thing in ODD:
            refused(self, NoNumber, box, thing, 2, 1)
            refused(self, NoNumber, box, 2, thing, 1)
            refused(self, NoNumber, box, 2, 2, thing)
            refused(self, NoNumber, box, thing, thing, thing)


class Numbered(unittest.TestCase):
    """Promise 31."""

    def test_all_parts_of_small_spaces(self):
        for space in SMALL:
            for size, parts in parts_by_words(space).items():
                self.assertEqual(all_parts(space, size), parts, (space, size))

    def test_all_parts_are_parts_rising_and_as_many_as_the_box(self):
        for p, n in SPACES:
            for size in range(n + 1):
                parts = all_parts((p, n), size)
                self.assertIs(type(parts), list)
                self.assertEqual(parts, sorted(set(parts)))
                self.assertEqual(len(parts), box_by_product(p, n, size))
                for part in parts:
                    self.assertEqual(len(part), size)
                    self.assertTrue(is_part_by_words(part))
                    self.assertTrue(all(len(row) == n and set(row) <= set(range(p)) for row in part))

    def test_by_hand(self):
        self.assertEqual(all_parts((2, 2), 0), [()])
        self.assertEqual(all_parts((2, 2), 1), [((0, 1),), ((1, 0),), ((1, 1),)])
        self.assertEqual(all_parts((2, 2), 2), [((1, 0), (0, 1))])
        self.assertEqual(all_parts((3, 1), 1), [((1,),)])
        self.assertEqual(all_parts((2, 3), 2)[:3], [((0, 1, 0), (0, 0, 1)), ((1, 0, 0), (0, 0, 1)), ((1, 0, 0), (0, 1, 0))])

    def test_there_and_back(self):
        for p, n in [space for space in SPACES if space != (2, 6)]:
            for size in range(n + 1):
                for number, part in enumerate(all_parts((p, n), size)):
                    self.assertEqual(number_of((p, n), part), number)
                    self.assertEqual(part_of((p, n), size, number), part)

    def test_least_and_greatest(self):
        for p, n in SPACES:
            for size in range(n + 1):
                parts = all_parts((p, n), size)
                self.assertEqual(part_of((p, n), size, 0), parts[0])
                self.assertEqual(part_of((p, n), size, len(parts) - 1), parts[-1])
                self.assertEqual(number_of((p, n), parts[-1]), len(parts) - 1)
                self.assertEqual(number_of((p, n), parts[0]), 0)
                for number in [len(parts), len(parts) + 1, -1, -len(parts)]:
                    refused(self, NoNumber, part_of, (p, n), size, number)
            self.assertEqual(number_of((p, n), ()), 0)
            self.assertEqual(number_of((p, n), whole_part((p, n))), 0)

    def test_sizes_that_are_none(self):
        for p, n in SPACES:
            for size in NO_NUMBERS + [n + 1, n + 2] + ODD:
                refused(self, NoNumber, all_parts, (p, n), size)
                refused(self, NoNumber, part_of, (p, n), size, 0)
                refused(self, NoNumber, part_of, (p, n), size, None)

    def test_numbers_that_are_none(self):
        for number in NO_NUMBERS + ODD + [3, 4]:
            refused(self, NoNumber, part_of, (2, 2), 1, number)
        for number in NO_NUMBERS + [1, 2]:
            refused(self, NoNumber, part_of, (5, 3), 0, number)
            refused(self, NoNumber, part_of, (5, 3), 3, number)

    def test_what_is_no_part(self):
        for thing in ODD + NO_PARTS:
            refused(self, NoPart, number_of, (2, 2), thing)


class Heads(unittest.TestCase):
    """Promise 32."""

    def test_heads_of_parts(self):
        self.assertEqual(heads((2, 6), ((0, 1, 0, 1, 1, 0), (0, 0, 1, 0, 1, 0), (0, 0, 0, 0, 0, 1))), (1, 2, 5))
        self.assertEqual(heads((5, 3), ((0, 1, 4),)), (1,))
        for space in SPACES:
            self.assertEqual(heads(space, ()), ())
            self.assertEqual(heads(space, whole_part(space)), tuple(range(space[1])))
        for space in SMALL:
            for parts in parts_by_words(space).values():
                for part in parts:
                    self.assertEqual(heads(space, part), tuple(first_place(row) for row in part))
                    self.assertIs(type(heads(space, part)), tuple)

    def test_what_is_no_part(self):
        for thing in ODD + NO_PARTS:
            refused(self, NoPart, heads, (2, 2), thing)

    def test_all_parts_with_told_heads(self):
        for p, n in SPACES:
            for places in rising_tuples(n):
                parts = with_heads((p, n), places)
                self.assertIs(type(parts), list)
                want = [part for part in all_parts((p, n), len(places))
                        if tuple(first_place(row) for row in part) == places]
                self.assertEqual(parts, want, (p, n, places))

    def test_by_hand(self):
        self.assertEqual(with_heads((2, 3), ()), [()])
        self.assertEqual(with_heads((2, 3), (0, 2)), [((1, 0, 0), (0, 0, 1)), ((1, 1, 0), (0, 0, 1))])
        self.assertEqual(with_heads((3, 2), (0,)), [((1, 0),), ((1, 1),), ((1, 2),)])
        self.assertEqual(with_heads((5, 3), (2,)), [((0, 0, 1),)])
        self.assertEqual(with_heads((2, 2), (0, 1)), [((1, 0), (0, 1))])

    def test_what_is_no_rising_tuple_of_places(self):
        wrong = [[], [0], [0, 1], (0, 0), (1, 1), (1, 0), (0, 2, 1), (0, 1, 1), (3,), (0, 3), (-1,), (-1, 0), (True,),
                 (0, True), (False,), (False, 1), ("0",), (0, "1"), (None,), (0, None), (0, [1]), ((0,),), ((0, 1),), 0, 1,
                 "0", "01", "", None, True, False, {}, {0: 1}, (0, {}), (0, 1, 2, 3), (10 ** 29,)]
        for thing in wrong:
            refused(self, NoHeads, with_heads, (2, 3), thing)
        for p, n in SPACES:
            refused(self, NoHeads, with_heads, (p, n), (n,))
            refused(self, NoHeads, with_heads, (p, n), (n - 1, n))
            refused(self, NoHeads, with_heads, (p, n), tuple(range(n + 1)))
            refused(self, NoHeads, with_heads, (p, n), list(range(n)))
        for thing in ODD:
            refused(self, NoHeads, with_heads, (2, 1), thing)


if __name__ == "__main__":
    unittest.main()
