import inspect
import unittest
from copy import deepcopy
from itertools import product

from common import ODD, SMALL, SPACES, closure, is_part_by_words, parts_by_words, refused, rows_in, some_rows, whole_part
from fewspaces import spaces
from fewspaces.errors import NoPart, NoRow
from fewspaces.spaces import holds, is_part, is_row, is_space, rows_of, spanned


class Everywhere(unittest.TestCase):
    """Promise 1, and the interface, of spaces.py."""

    def test_names_and_arguments(self):
        told = {
            "is_space": ["thing"], "is_row": ["space", "thing"], "is_part": ["space", "thing"],
            "spanned": ["space", "rows"], "holds": ["space", "part", "row"], "rows_of": ["space", "part"],
        }
        for name, arguments in told.items():
            self.assertEqual(list(inspect.signature(getattr(spaces, name)).parameters), arguments)

    def test_what_is_handed_in_stays_as_it_was(self):
        rows = [(1, 2, 0), (2, 1, 1), (0, 0, 0), (1, 2, 0)]
        before = deepcopy(rows)
        spanned((3, 3), rows)
        self.assertEqual(rows, before)
        for thing in ODD:
            before = deepcopy(thing)
            is_space(thing)
            is_row((2, 2), thing)
            is_part((2, 2), thing)
            self.assertEqual(thing, before)
            refused(self, NoRow, spanned, (2, 2), [(0, 1), thing])
            refused(self, NoPart, rows_of, (3, 2), thing)
            self.assertEqual(thing, before)

    def test_nothing_that_is_handed_in_is_kept(self):
        rows = [(1, 1), (0, 1)]
        part = spanned((2, 2), rows)
        rows.clear()
        self.assertEqual(part, ((1, 0), (0, 1)))
        self.assertEqual(spanned((2, 2), rows), ())

    def test_told_lists_are_the_askers_own(self):
        part = ((1, 0, 1), (0, 1, 1))
        one, other = rows_of((2, 3), part), rows_of((2, 3), part)
        self.assertIsNot(one, other)
        self.assertEqual(one, other)
        one.clear()
        other.append("more")
        self.assertEqual(rows_of((2, 3), part), [(0, 0, 0), (0, 1, 1), (1, 0, 1), (1, 1, 0)])

    def test_what_was_told_may_be_handed_in_again(self):
        for space in SPACES:
            part = spanned(space, some_rows(space, 2, 7))
            self.assertEqual(spanned(space, rows_of(space, part)), part)
            self.assertEqual(spanned(space, part), part)


class Spaces(unittest.TestCase):
    """Promise 10: spaces."""

    def test_all_spaces_and_one_beyond_each(self):
        for p in range(-3, 9):
            for n in range(-3, 10):
                self.assertIs(is_space((p, n)), (p, n) in SPACES, (p, n))

    def test_least_and_greatest(self):
        for p, most in [(2, 6), (3, 4), (5, 3)]:
            self.assertIs(is_space((p, 1)), True)
            self.assertIs(is_space((p, most)), True)
            self.assertIs(is_space((p, 0)), False)
            self.assertIs(is_space((p, most + 1)), False)

    def test_truths_are_no_numbers(self):
        for thing in [(2, True), (3, True), (5, True), (True, 1), (True, True), (False, 1), (2, False)]:
            self.assertIs(is_space(thing), False, thing)

    def test_other_kinds(self):
        for thing in ODD:
            self.assertIs(is_space(thing), False, thing)
            self.assertIs(is_space((2, thing)), False, thing)
            self.assertIs(is_space((thing, 1)), False, thing)
        for thing in [[2, 1], (), (2,), (2, 1, 1), ((2, 1),), [(2, 1)], {2: 1}, 2, "21", ((2,), (1,)), ([2], [1])]:
            self.assertIs(is_space(thing), False, thing)


class Rows(unittest.TestCase):
    """Promise 10: rows."""

    def test_all_rows_and_none_else(self):
        for p, n in SMALL:
            for length in range(n + 2):
                for thing in product(range(-1, p + 2), repeat=length):
                    want = length == n and all(0 <= number < p for number in thing)
                    self.assertIs(is_row((p, n), thing), want, thing)

    def test_greatest_spaces(self):
        for p, n in [(2, 6), (3, 4), (5, 3)]:
            for row in rows_in((p, n)):
                self.assertIs(is_row((p, n), row), True)
                self.assertIs(is_row((p, n), list(row)), False)
                self.assertIs(is_row((p, n), row[1:]), False)
                self.assertIs(is_row((p, n), row + (0,)), False)

    def test_wrong_number_at_each_place(self):
        for p, n in SPACES:
            for place in range(n):
                for wrong in [p, p + 1, -1, -p, True, False, None, "0", "1", (), (0,), [], [0], {}, 10 ** 29]:
                    row = (0,) * place + (wrong,) + (1,) * (n - place - 1)
                    self.assertIs(is_row((p, n), row), False, row)

    def test_other_kinds(self):
        for space in SPACES:
            for thing in ODD:
                self.assertIs(is_row(space, thing), False, thing)
        self.assertIs(is_row((2, 2), "01"), False)
        self.assertIs(is_row((2, 1), 1), False)
        self.assertIs(is_row((2, 2), {0: 0, 1: 1}), False)


class Parts(unittest.TestCase):
    """Promise 11."""

    def test_least_and_whole(self):
        for space in SPACES:
            self.assertIs(is_part(space, ()), True)
            self.assertIs(is_part(space, whole_part(space)), True)

    def test_all_tuples_of_rows_of_small_spaces(self):
        for space, most in [((2, 1), 3), ((2, 2), 4), ((2, 3), 4), ((3, 1), 3), ((3, 2), 3), ((5, 1), 3), ((5, 2), 2)]:
            for size in range(most + 1):
                for thing in product(rows_in(space), repeat=size):
                    self.assertIs(is_part(space, thing), is_part_by_words(thing), (space, thing))

    def test_parts_of_greater_spaces(self):
        self.assertIs(is_part((2, 6), ((0, 1, 0, 1, 1, 0), (0, 0, 1, 0, 1, 0), (0, 0, 0, 0, 0, 1))), True)
        self.assertIs(is_part((3, 4), ((1, 2, 0, 2), (0, 0, 1, 1))), True)
        self.assertIs(is_part((5, 3), ((1, 0, 4), (0, 1, 3))), True)
        self.assertIs(is_part((5, 3), ((0, 0, 1),)), True)

    def test_head_that_is_not_one(self):
        self.assertIs(is_part((3, 2), ((2, 0),)), False)
        self.assertIs(is_part((3, 2), ((1, 0), (0, 2))), False)
        self.assertIs(is_part((5, 3), ((1, 0, 0), (0, 4, 1))), False)

    def test_heads_that_do_not_rise(self):
        self.assertIs(is_part((2, 2), ((0, 1), (1, 0))), False)
        self.assertIs(is_part((2, 3), ((1, 0, 0), (0, 0, 1), (0, 1, 0))), False)
        self.assertIs(is_part((3, 3), ((0, 1, 0), (1, 0, 2))), False)

    def test_number_at_another_rows_head(self):
        self.assertIs(is_part((2, 2), ((1, 1), (0, 1))), False)
        self.assertIs(is_part((3, 3), ((1, 0, 2), (0, 1, 0), (0, 0, 1))), False)
        self.assertIs(is_part((5, 3), ((1, 3, 0), (0, 1, 0))), False)

    def test_noughts_and_rows_twice(self):
        self.assertIs(is_part((2, 2), ((0, 0),)), False)
        self.assertIs(is_part((2, 2), ((1, 0), (0, 0))), False)
        self.assertIs(is_part((2, 2), ((0, 0), (1, 0))), False)
        self.assertIs(is_part((2, 2), ((1, 0), (1, 0))), False)
        self.assertIs(is_part((2, 3), ((1, 0, 0), (0, 1, 1), (0, 1, 1))), False)

    def test_rows_of_another_space(self):
        self.assertIs(is_part((2, 2), ((1, 0, 0),)), False)
        self.assertIs(is_part((2, 3), ((1, 0),)), False)
        self.assertIs(is_part((2, 2), ((1, 0), (0, 1, 0))), False)
        self.assertIs(is_part((2, 2), ((1, 2),)), False)
        self.assertIs(is_part((3, 2), ((1, 2),)), True)

    def test_lists_truths_and_other_kinds_at_each_depth(self):
        for thing in [
            [], [(1, 0), (0, 1)], ([1, 0], (0, 1)), ((1, 0), [0, 1]), ([1, 0], [0, 1]), ((True, 0), (0, 1)),
            ((1, False), (0, 1)), ((1, 0), (0, True)), (([1], 0), (0, 1)), ((1, (0,)), (0, 1)), (1, 0), ((1, 0), 1),
            ((1, 0), None), ((1, 0), "01"), ("10", "01"), "10/01", "none", None, 0, True, {}, {(1, 0): True},
            ((1, 0), (0, 1), ()), ((),), (((1, 0),),), ((1, -1),), ((1, "0"),), ((1, None),), ((1, {}),),
        ]:
            self.assertIs(is_part((2, 2), thing), False, thing)
        for space in SPACES:
            for thing in ODD:
                self.assertIs(is_part(space, thing), False, thing)

    def test_each_closed_lot_is_held_by_just_one_part(self):
        for space in SMALL:
            parts = [part for some in parts_by_words(space).values() for part in some]
            lots = {closure(space, rows) for rows in product(rows_in(space), repeat=space[1])}
            self.assertEqual(len(parts), len(lots))
            self.assertEqual({frozenset(rows_of(space, part)) for part in parts}, lots)


class Spanned(unittest.TestCase):
    """Promise 12: the part that is spanned."""

    def check(self, space, rows):
        part = spanned(space, rows)
        self.assertTrue(is_part_by_words(part), (space, rows))
        self.assertIs(is_part(space, part), True)
        self.assertEqual(closure(space, part), closure(space, rows), (space, rows))

    def test_by_hand(self):
        self.assertEqual(spanned((2, 3), [(1, 1, 0), (0, 1, 1)]), ((1, 0, 1), (0, 1, 1)))
        self.assertEqual(spanned((3, 2), [(2, 1)]), ((1, 2),))
        self.assertEqual(spanned((5, 3), ((0, 3, 1),)), ((0, 1, 2),))
        self.assertEqual(spanned((5, 3), ((0, 0, 4), (3, 1, 1))), ((1, 2, 0), (0, 0, 1)))
        self.assertEqual(spanned((3, 3), [(0, 0, 2), (0, 2, 1), (2, 1, 1)]), whole_part((3, 3)))

    def test_none_and_noughts(self):
        for p, n in SPACES:
            self.assertEqual(spanned((p, n), ()), ())
            self.assertEqual(spanned((p, n), []), ())
            self.assertEqual(spanned((p, n), [(0,) * n] * 12), ())
            self.assertEqual(spanned((p, n), [(0,) * n, (1,) * n, (0,) * n]), ((1,) * n,))

    def test_all_few_rows_of_small_spaces(self):
        for space, most in [((2, 1), 4), ((2, 2), 4), ((2, 3), 3), ((3, 1), 3), ((3, 2), 3), ((5, 1), 3), ((5, 2), 2)]:
            for many in range(most + 1):
                for rows in product(rows_in(space), repeat=many):
                    self.check(space, rows)

    def test_none_to_twelve_rows_tuple_and_list(self):
        for space in SPACES:
            for many in range(13):
                for seed in range(4):
                    rows = some_rows(space, many, seed)
                    self.check(space, rows)
                    self.assertEqual(spanned(space, tuple(rows)), spanned(space, rows))
                    self.assertEqual(spanned(space, rows[::-1]), spanned(space, rows))

    def test_each_of_twelve_rows_counts(self):
        for p, n in SPACES:
            for place in range(12):
                rows = [(0,) * n] * 12
                rows[place] = (0,) * (n - 1) + (p - 1,)
                self.assertEqual(spanned((p, n), rows), ((0,) * (n - 1) + (1,),))

    def test_more_than_twelve_are_not_refused(self):
        self.assertEqual(spanned((3, 2), [(0, 0)] * 12 + [(2, 1)]), ((1, 2),))

    def test_rows_that_come_of_others(self):
        for p, n in [(2, 6), (3, 4), (5, 3)]:
            one, other = some_rows((p, n), 2, 11)
            more = [tuple((k * a + j * b) % p for a, b in zip(one, other)) for k in range(p) for j in range(p)]
            self.assertEqual(spanned((p, n), more[:12] + [one, other]), spanned((p, n), [one, other]))
            self.assertEqual(spanned((p, n), [other, one, one, other]), spanned((p, n), [one, other]))

    def test_what_is_no_row_at_any_place(self):
        for space in [(2, 1), (2, 6), (3, 4), (5, 3)]:
            p, n = space
            wrong = [(p,) * n, (-1,) * n, (0,) * (n + 1), (1,) * (n - 1), [0] * n, (True,) * n, None, 0, "0" * n, {}, ()]
            for thing in wrong + ODD:
                refused(self, NoRow, spanned, space, [thing])
                refused(self, NoRow, spanned, space, (thing,))
            for place in range(12):
                for thing in wrong:
                    rows = some_rows(space, 11, place)
                    rows.insert(place, thing)
                    refused(self, NoRow, spanned, space, rows)
                    refused(self, NoRow, spanned, space, tuple(rows))


class Holds(unittest.TestCase):
    """Promise 12: what a part holds."""

    def test_all_parts_and_rows_of_small_spaces(self):
        for space in SMALL:
            for some in parts_by_words(space).values():
                for part in some:
                    held = closure(space, part)
                    for row in rows_in(space):
                        self.assertIs(holds(space, part, row), row in held, (part, row))
                    self.assertEqual(rows_of(space, part), sorted(held))

    def test_greater_spaces(self):
        for space in SPACES:
            for many in range(space[1] + 1):
                part = spanned(space, some_rows(space, many, many + 3))
                held = closure(space, part)
                for row in rows_in(space):
                    self.assertIs(holds(space, part, row), row in held)

    def test_rows_of_are_rising_and_as_many_as_told(self):
        for p, n in SPACES:
            for many in range(n + 1):
                part = spanned((p, n), some_rows((p, n), many, many + 5))
                rows = rows_of((p, n), part)
                self.assertIs(type(rows), list)
                self.assertEqual(rows, sorted(set(rows)))
                self.assertEqual(len(rows), p ** len(part))
                self.assertEqual(set(rows), closure((p, n), part))
            self.assertEqual(rows_of((p, n), ()), [(0,) * n])
            self.assertEqual(rows_of((p, n), whole_part((p, n))), rows_in((p, n)))

    def test_refusals(self):
        for thing in ODD + [((0, 1), (1, 0)), ((0, 0),), ((1, 1), (0, 1)), [(1, 0)], ((1, 0, 0),), ((2, 0),)]:
            refused(self, NoPart, holds, (2, 2), thing, (0, 1))
            refused(self, NoPart, holds, (2, 2), thing, None)
            refused(self, NoPart, holds, (2, 2), thing, [0, 1])
            refused(self, NoPart, rows_of, (2, 2), thing)
        for thing in ODD + [(0, 2), (0, -1), (0,), (0, 0, 0), [0, 1], (True, 0), ()]:
            refused(self, NoRow, holds, (2, 2), (), thing)
            refused(self, NoRow, holds, (2, 2), ((1, 0), (0, 1)), thing)


if __name__ == "__main__":
    unittest.main()
