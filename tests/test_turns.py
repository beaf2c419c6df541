import unittest
from itertools import product

from common import (MIDDLE, NO_NUMBERS, NO_PARTS, NO_TURNS, ODD, SMALL, SPACES, arguments, closure, led_by_words,
                    lots_by_parts, refused, refused_without_turn, refused_without_two_parts, rows_in, some_rows,
                    some_turns, the_askers_own, turns_by_words, whole_part)
from fewspaces import turns
from fewspaces.counts import all_parts
from fewspaces.errors import NoNumber, NoPart, NoRow, NoTurn
from fewspaces.spaces import spanned
from fewspaces.turns import back, behind, is_turn, led, led_row, lots_of, many_turns, round_of, some_turn

TINY = [(2, 1), (2, 2), (3, 1), (5, 1)]


class Everywhere(unittest.TestCase):
    """Promise 1, and the interface, of turns.py."""

    def test_names_and_arguments(self):
        told = {
            "is_turn": ["space", "thing"], "led_row": ["space", "turn", "row"], "led": ["space", "turn", "part"],
            "behind": ["space", "one", "other"], "back": ["space", "turn"], "round_of": ["space", "turn"],
            "many_turns": ["space"], "lots_of": ["space", "turn", "size"], "some_turn": ["space", "one", "other"],
        }
        for name, names in told.items():
            self.assertEqual(arguments(getattr(turns, name)), names)

    def test_told_lists_are_the_askers_own(self):
        for space in SMALL:
            for turn in some_turns(space, 3):
                for size in range(space[1] + 1):
                    the_askers_own(self, lots_of, space, turn, size)

    def test_what_was_told_may_be_handed_in_again(self):
        for space in SPACES:
            one, other = some_turns(space, 2)
            both = behind(space, one, other)
            self.assertEqual(behind(space, both, back(space, both)), whole_part(space))
            for lot in lots_of(space, both, 1):
                for part in lot:
                    self.assertIn(led(space, both, part), lot)


class IsTurn(unittest.TestCase):
    """Promise 70: what is a turn."""

    def test_all_tuples_of_rows_of_small_spaces(self):
        for space in SMALL:
            p, n = space
            for many in range(n + 2):
                for thing in product(rows_in(space), repeat=many):
                    want = many == n and len(closure(space, thing)) == p ** n
                    self.assertIs(is_turn(space, thing), want, (space, thing))

    def test_turns_of_all_spaces(self):
        for space in SPACES:
            p, n = space
            for turn in some_turns(space, 2):
                self.assertIs(is_turn(space, turn), True)
                self.assertIs(is_turn(space, turn[::-1]), True)
                self.assertIs(is_turn(space, list(turn)), False)
                self.assertIs(is_turn(space, turn[1:]), False)
                self.assertIs(is_turn(space, turn[:-1]), False)
                self.assertIs(is_turn(space, turn + turn[:1]), False)
                self.assertIs(is_turn(space, turn + ((0,) * n,)), False)

    def test_wrong_at_each_place(self):
        for space in SPACES:
            p, n = space
            for turn in some_turns(space, 2):
                for k in range(n):
                    others = turn[:k] + turn[k + 1:]
                    # Each row that comes of the others, those of noughts and of a row twice among them.
                    for row in sorted(closure(space, others)):
                        self.assertIs(is_turn(space, turn[:k] + (row,) + turn[k + 1:]), False)
                    for wrong in [list(turn[k]), turn[k][1:], turn[k] + (0,), None, 1, "0" * n, True, {}, ()]:
                        self.assertIs(is_turn(space, turn[:k] + (wrong,) + turn[k + 1:]), False, wrong)
                    for j in range(n):
                        for wrong in [p, p + 1, -1, True, False, None, "1", (1,), [1], {}, 10 ** 29]:
                            row = turn[k][:j] + (wrong,) + turn[k][j + 1:]
                            self.assertIs(is_turn(space, turn[:k] + (row,) + turn[k + 1:]), False, row)

    def test_things_of_other_kinds(self):
        for space in SPACES:
            for thing in ODD:
                self.assertIs(is_turn(space, thing), False, thing)
        for thing in NO_TURNS:
            self.assertIs(is_turn((2, 2), thing), False, thing)

    def test_of_another_space(self):
        self.assertIs(is_turn((3, 2), ((2, 0), (0, 1))), True)
        self.assertIs(is_turn((2, 2), ((2, 0), (0, 1))), False)
        self.assertIs(is_turn((2, 3), ((1, 0), (0, 1))), False)
        # By what is left of 3 the second row is twice the first; by what is left of 5 it isn't.
        self.assertIs(is_turn((3, 2), ((1, 2), (2, 1))), False)
        self.assertIs(is_turn((5, 2), ((1, 2), (2, 1))), True)


class Led(unittest.TestCase):
    """Promise 70: where rows and parts are led."""

    def test_by_hand(self):
        turn = ((0, 1, 0), (1, 0, 1), (0, 0, 1))
        self.assertEqual(led_row((2, 3), turn, (1, 0, 0)), (0, 1, 0))
        self.assertEqual(led_row((2, 3), turn, (0, 1, 0)), (1, 0, 1))
        self.assertEqual(led_row((2, 3), turn, (1, 1, 1)), (1, 1, 0))
        self.assertEqual(led_row((3, 2), ((1, 2), (0, 2)), (2, 1)), (2, 0))
        self.assertEqual(led_row((5, 1), ((3,),), (4,)), (2,))
        self.assertEqual(led((2, 3), turn, ((1, 0, 0), (0, 1, 0))), ((1, 0, 1), (0, 1, 0)))
        self.assertEqual(led((3, 2), ((1, 2), (0, 2)), ((1, 1),)), ((1, 1),))
        self.assertEqual(led((3, 2), ((1, 2), (0, 2)), ((1, 0),)), ((1, 2),))

    def test_all_turns_and_rows_of_small_spaces(self):
        for space in SMALL:
            for turn in turns_by_words(space):
                for row in rows_in(space):
                    told = led_row(space, turn, row)
                    self.assertIs(type(told), tuple)
                    self.assertEqual(told, led_by_words(space, turn, row), (space, turn, row))

    def test_rows_of_all_spaces(self):
        for space in SPACES:
            for turn in some_turns(space, 2):
                told = [led_row(space, turn, row) for row in rows_in(space)]
                self.assertEqual(told, [led_by_words(space, turn, row) for row in rows_in(space)])
                self.assertEqual(sorted(told), rows_in(space))

    def check_parts(self, space, lots, turn):
        """Each part is led to the part that holds just the rows to which all rows that it holds are led."""
        leads = {row: led_by_words(space, turn, row) for row in rows_in(space)}
        for part, lot in lots.items():
            self.assertEqual(lots[led(space, turn, part)], {leads[row] for row in lot}, (space, turn, part))

    def test_all_turns_and_parts_of_small_spaces(self):
        for space in SMALL:
            lots = lots_by_parts(space)
            for turn in turns_by_words(space):
                self.check_parts(space, lots, turn)

    def test_parts_of_greater_spaces(self):
        for space in MIDDLE + [(2, 5), (2, 6), (3, 4)]:
            lots = lots_by_parts(space)
            for turn in some_turns(space, 3):
                self.check_parts(space, lots, turn)

    def test_least_and_whole(self):
        for space in SPACES:
            for turn in some_turns(space, 2):
                self.assertEqual(led(space, turn, ()), ())
                self.assertEqual(led(space, turn, whole_part(space)), whole_part(space))
                self.assertEqual(led_row(space, turn, (0,) * space[1]), (0,) * space[1])

    def test_no_turn_comes_first(self):
        for behind_it in [(0, 1), (0, 2), None, [0, 1], (), True]:
            refused_without_turn(self, led_row, behind_it)
        for behind_it in [(), ((1, 0),), ((0, 1), (1, 0)), None, [], "none"]:
            refused_without_turn(self, led, behind_it)

    def test_no_row_and_no_part_come_behind(self):
        for turn in turns_by_words((2, 2)):
            for thing in ODD + [(0, 2), (0, -1), (0,), (0, 0, 0), [0, 1], (True, 0), (), ((1, 0),)]:
                refused(self, NoRow, led_row, (2, 2), turn, thing)
            for thing in ODD + NO_PARTS:
                refused(self, NoPart, led, (2, 2), turn, thing)


class BehindAndBack(unittest.TestCase):
    """Promise 71."""

    def check_behind(self, space, one, other):
        both = behind(space, one, other)
        self.assertIs(is_turn(space, both), True)
        for row in rows_in(space):
            want = led_by_words(space, other, led_by_words(space, one, row))
            self.assertEqual(led_by_words(space, both, row), want, (space, one, other, row))

    def test_by_hand(self):
        self.assertEqual(behind((2, 2), ((1, 1), (0, 1)), ((0, 1), (1, 0))), ((1, 1), (1, 0)))
        self.assertEqual(behind((2, 2), ((0, 1), (1, 0)), ((1, 1), (0, 1))), ((0, 1), (1, 1)))
        self.assertEqual(behind((5, 1), ((2,),), ((4,),)), ((3,),))
        self.assertEqual(back((5, 1), ((2,),)), ((3,),))
        self.assertEqual(back((2, 3), ((0, 1, 0), (0, 0, 1), (1, 0, 0))), ((0, 0, 1), (1, 0, 0), (0, 1, 0)))
        self.assertEqual(back((3, 2), ((1, 1), (0, 2))), ((1, 1), (0, 2)))

    def test_all_pairs_of_small_spaces(self):
        for space in TINY + [(3, 2)]:
            found = turns_by_words(space)
            for one in found:
                for other in found:
                    self.check_behind(space, one, other)

    def test_pairs_of_all_spaces(self):
        for space in SPACES:
            found = some_turns(space, 5)
            for one in found:
                for other in found:
                    self.check_behind(space, one, other)

    def check_back(self, space, turn):
        there = back(space, turn)
        self.assertIs(is_turn(space, there), True)
        for row in rows_in(space):
            self.assertEqual(led_by_words(space, there, led_by_words(space, turn, row)), row, (space, turn))
            self.assertEqual(led_by_words(space, turn, led_by_words(space, there, row)), row, (space, turn))

    def test_back_of_all_turns_of_small_spaces(self):
        for space in SMALL:
            for turn in turns_by_words(space):
                self.check_back(space, turn)

    def test_back_of_turns_of_all_spaces(self):
        for space in SPACES:
            self.assertEqual(back(space, whole_part(space)), whole_part(space))
            for turn in some_turns(space, 8):
                self.check_back(space, turn)

    def round_by_words(self, space, turn):
        """How often the turn is done till each row is led to itself, by doing it."""
        found = {row: led_by_words(space, turn, row) for row in rows_in(space)}
        rows = [found[row] for row in rows_in(space)]
        often = 1
        while rows != rows_in(space):
            rows = [found[row] for row in rows]
            often += 1
        return often

    def test_round(self):
        for space in SMALL:
            for turn in turns_by_words(space):
                told = round_of(space, turn)
                self.assertIs(type(told), int)
                self.assertEqual(told, self.round_by_words(space, turn), (space, turn))
        for space in MIDDLE + [(2, 5), (2, 6), (3, 4)]:
            for turn in some_turns(space, 12):
                self.assertEqual(round_of(space, turn), self.round_by_words(space, turn), (space, turn))

    def test_round_by_hand(self):
        for space in SPACES:
            self.assertEqual(round_of(space, whole_part(space)), 1)
        self.assertEqual(round_of((2, 2), ((0, 1), (1, 0))), 2)
        self.assertEqual(round_of((2, 2), ((0, 1), (1, 1))), 3)
        self.assertEqual(round_of((5, 1), ((2,),)), 4)
        self.assertEqual(round_of((5, 1), ((4,),)), 2)
        self.assertEqual(round_of((3, 2), ((2, 0), (0, 2))), 2)
        self.assertEqual(round_of((2, 6), whole_part((2, 6))[1:] + ((1, 1, 0, 0, 0, 0),)), 63)
        self.assertEqual(round_of((3, 4), whole_part((3, 4))[1:] + ((1, 0, 0, 1),)), 80)

    def test_refusals(self):
        refused_without_turn(self, back)
        refused_without_turn(self, round_of)
        for turn in turns_by_words((2, 2)):
            refused_without_turn(self, behind, turn)
            for thing in ODD + NO_TURNS:
                refused(self, NoTurn, behind, (2, 2), turn, thing)
        for thing in ODD + NO_TURNS:
            refused(self, NoTurn, behind, (2, 2), thing, thing)
            refused(self, NoTurn, behind, (2, 2), thing, None)


class ManyTurns(unittest.TestCase):
    """Promise 71: how many turns there are."""

    def test_small_spaces_by_going_through(self):
        for space in SMALL:
            self.assertEqual(many_turns(space), len(turns_by_words(space)), space)
            things = product(rows_in(space), repeat=space[1])
            self.assertEqual(many_turns(space), sum(is_turn(space, thing) for thing in things), space)

    def test_by_hand(self):
        for space, many in [((2, 1), 1), ((3, 1), 2), ((5, 1), 4), ((2, 2), 6), ((2, 3), 168), ((2, 4), 20160),
                            ((2, 5), 9999360), ((2, 6), 20158709760), ((3, 2), 48), ((3, 3), 11232), ((3, 4), 24261120),
                            ((5, 2), 480), ((5, 3), 1488000)]:
            self.assertEqual(many_turns(space), many, space)

    def test_all_spaces_row_by_row(self):
        for p, n in SPACES:
            want = 1
            for size in range(n):
                want *= p ** n - p ** size
            self.assertIs(type(many_turns((p, n))), int)
            self.assertEqual(many_turns((p, n)), want)


class Lots(unittest.TestCase):
    """Promise 72."""

    def lots_by_words(self, space, turn, lots, size):
        """The lots, each part led on as its rows are till it comes back."""
        by_lot = {lot: part for part, lot in lots.items()}
        leads = {row: led_by_words(space, turn, row) for row in rows_in(space)}
        found = set()
        for part in [part for part in lots if len(part) == size]:
            lot = lots[part]
            members = set()
            while by_lot[lot] not in members:
                members.add(by_lot[lot])
                lot = frozenset(leads[row] for row in lot)
            found.add(tuple(sorted(members)))
        return sorted(found)

    def check(self, space, lots, turn):
        for size in range(space[1] + 1):
            told = lots_of(space, turn, size)
            self.assertIs(type(told), list)
            self.assertTrue(all(type(lot) is tuple and list(lot) == sorted(set(lot)) for lot in told))
            self.assertEqual(told, sorted(set(told)))
            self.assertEqual(sorted(part for lot in told for part in lot), all_parts(space, size))
            self.assertEqual(told, self.lots_by_words(space, turn, lots, size), (space, turn, size))

    def test_by_hand(self):
        self.assertEqual(lots_of((2, 2), ((0, 1), (1, 0)), 1), [(((0, 1),), ((1, 0),)), (((1, 1),),)])
        self.assertEqual(lots_of((2, 2), ((0, 1), (1, 1)), 1), [(((0, 1),), ((1, 0),), ((1, 1),))])
        self.assertEqual(lots_of((2, 2), ((0, 1), (1, 1)), 0), [((),)])
        self.assertEqual(lots_of((2, 2), ((0, 1), (1, 1)), 2), [(((1, 0), (0, 1)),)])
        self.assertEqual(lots_of((3, 2), ((2, 0), (0, 2)), 1), [(part,) for part in all_parts((3, 2), 1)])

    def test_all_turns_of_small_spaces(self):
        for space in SMALL:
            lots = lots_by_parts(space)
            for turn in turns_by_words(space)[::5] + [whole_part(space)]:
                self.check(space, lots, turn)

    def test_turns_of_greater_spaces(self):
        for space in MIDDLE + [(2, 5), (3, 4)]:
            lots = lots_by_parts(space)
            for turn in some_turns(space, 4):
                self.check(space, lots, turn)

    def test_greatest_space(self):
        lots = lots_by_parts((2, 6))
        self.check((2, 6), lots, whole_part((2, 6))[1:] + ((1, 1, 0, 0, 0, 0),))
        self.check((2, 6), lots, some_turns((2, 6), 2)[1])

    def test_no_turn_comes_ahead_of_no_number(self):
        for size in [0, 1, 2, 3, -1, True, None, "1", [], ()]:
            refused_without_turn(self, lots_of, size)

    def test_sizes_that_are_none(self):
        for space in SPACES:
            p, n = space
            for turn in some_turns(space, 2):
                for size in NO_NUMBERS + ODD + [n + 1, n + 2, -n]:
                    refused(self, NoNumber, lots_of, space, turn, size)


class SomeTurn(unittest.TestCase):
    """Promise 73."""

    def check(self, space, lots, one, other):
        turn = some_turn(space, one, other)
        if len(one) != len(other):
            self.assertIsNone(turn, (space, one, other))
            return
        self.assertIs(is_turn(space, turn), True, (space, one, other))
        self.assertEqual({led_by_words(space, turn, row) for row in lots[one]}, lots[other], (space, one, other))
        self.assertEqual(led(space, turn, one), other)
        self.assertEqual(some_turn(space, one, other), turn)

    def test_all_pairs(self):
        for space in SMALL + MIDDLE:
            lots = lots_by_parts(space)
            for one in list(lots)[::1 if space in SMALL else 3]:
                for other in lots:
                    self.check(space, lots, one, other)

    def test_pairs_of_the_greatest_spaces(self):
        for space in [(2, 5), (2, 6), (3, 4)]:
            for many in range(space[1] + 1):
                for seed in range(6):
                    one = spanned(space, some_rows(space, many, seed))
                    other = spanned(space, some_rows(space, many, seed + 20))
                    self.check(space, {part: closure(space, part) for part in [one, other]}, one, other)

    def test_itself_least_and_whole(self):
        for space in SPACES:
            whole = whole_part(space)
            lots = {part: closure(space, part) for part in [(), whole, spanned(space, some_rows(space, 2, 3))]}
            for part in lots:
                self.check(space, lots, part, part)
            self.assertIsNone(some_turn(space, (), whole))
            self.assertIsNone(some_turn(space, whole, ()))

    def test_refusals(self):
        refused_without_two_parts(self, some_turn)


if __name__ == "__main__":
    unittest.main()
