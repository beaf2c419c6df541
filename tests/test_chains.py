import unittest
from copy import deepcopy
from itertools import product

from common import (MIDDLE, NO_NUMBERS, NO_PARTS, ODD, SMALL, SPACES, arguments, closure, lots_by_parts, refused,
                    refused_without_two_parts, rising_tuples, some_rows, the_askers_own, whole_part)
from fewspaces import chains
from fewspaces.chains import between, is_chain, many_chains, mark
from fewspaces.counts import all_parts
from fewspaces.errors import NoNumber, NotIn
from fewspaces.spaces import spanned


def steps(space):
    """The parts of a space, grown place by place from the end: each lies in the next one, the whole one last."""
    whole = whole_part(space)
    return tuple(whole[k:] for k in range(space[1], -1, -1))


class Everywhere(unittest.TestCase):
    """Promise 1, and the interface, of chains.py."""

    def test_names_and_arguments(self):
        self.assertEqual(arguments(chains.is_chain), ["space", "thing"])
        self.assertEqual(arguments(chains.many_chains), ["space", "sizes"])
        self.assertEqual(arguments(chains.between), ["space", "one", "other"])
        self.assertEqual(arguments(chains.mark), ["space", "one", "other"])

    def test_told_lists_are_the_askers_own(self):
        for space in SMALL:
            for part in lots_by_parts(space):
                the_askers_own(self, between, space, part, part)
                the_askers_own(self, between, space, (), part)
                the_askers_own(self, between, space, part, whole_part(space))

    def test_what_is_handed_in_stays_as_it_was(self):
        for thing in ODD:
            before = deepcopy(thing)
            is_chain((2, 2), thing)
            is_chain((2, 2), (thing,))
            refused(self, NoNumber, many_chains, (2, 1), (thing,))
            self.assertEqual(thing, before)


class Chains(unittest.TestCase):
    """Promise 60: what is a chain."""

    def test_none_one_and_more(self):
        for space in SPACES:
            full = steps(space)
            self.assertIs(is_chain(space, ()), True)
            self.assertIs(is_chain(space, full), True)
            for k in range(len(full)):
                self.assertIs(is_chain(space, (full[k],)), True)
                self.assertIs(is_chain(space, full[:k]), True)
                self.assertIs(is_chain(space, full[:k] + full[k + 1:]), True)
                self.assertIs(is_chain(space, full[:k] + full[k:k + 1] + full[k:]), False)
                self.assertIs(is_chain(space, full[:k] + full[k + 1:] + full[k:k + 1]), k + 1 == len(full))
            self.assertIs(is_chain(space, full[::-1]), False)
            self.assertIs(is_chain(space, list(full)), False)
            self.assertIs(is_chain(space, []), False)

    def test_all_tuples_of_parts_of_small_spaces(self):
        for space, most in [((2, 1), 5), ((2, 2), 4), ((2, 3), 3), ((3, 1), 4), ((3, 2), 4), ((5, 2), 3), ((2, 4), 2)]:
            lots = lots_by_parts(space)
            for many in range(most + 1):
                for thing in product(lots, repeat=many):
                    want = all(lots[thing[k]] < lots[thing[k + 1]] for k in range(many - 1))
                    self.assertIs(is_chain(space, thing), want, (space, thing))

    def test_a_part_that_does_not_lie_in_the_next_one(self):
        self.assertIs(is_chain((2, 3), (((1, 1, 0),), ((1, 0, 1), (0, 1, 1)))), True)
        self.assertIs(is_chain((2, 3), (((1, 1, 1),), ((1, 0, 1), (0, 1, 1)))), False)
        self.assertIs(is_chain((2, 3), ((), ((1, 1, 1),), ((1, 0, 1), (0, 1, 1)), whole_part((2, 3)))), False)
        self.assertIs(is_chain((3, 3), (((1, 1, 1),), ((1, 0, 0), (0, 1, 2)), whole_part((3, 3)))), False)
        self.assertIs(is_chain((3, 3), (((1, 1, 2),), ((1, 0, 0), (0, 1, 2)), whole_part((3, 3)))), True)

    def test_what_is_no_part_at_any_place(self):
        full = steps((2, 2))
        for thing in ODD + NO_PARTS:
            for k in range(len(full) + 1):
                self.assertIs(is_chain((2, 2), full[:k] + (thing,) + full[k:]), False, (k, thing))
                self.assertIs(is_chain((2, 2), full[:k] + (thing,) + full[k + 1:]), False, (k, thing))
            self.assertIs(is_chain((2, 2), (thing,)), False, thing)

    def test_things_of_other_kinds(self):
        # Among the odd things these two alone are tuples of one part.
        chained = [repr(((),)), repr((((1, 0), (0, 1)),))]
        for thing in ODD:
            self.assertIs(is_chain((2, 2), thing), repr(thing) in chained, thing)
        for thing in [None, True, False, 0, 1, "", "none", [], [()], {}, {(): ()}, ((), ()), ((), []), ([], ((1, 0),)),
                      (((True, 0),),), (((1, False),),), ((), [(1, 0)]), ((1, 0), (0, 1)), ((1, 0),), (None,), (0,), ((), 1),
                      ((), "none"), ("",), [((1, 0),)], (((1, 0, 0),),), (((1, 0),), ((1, 0), (0, True)))]:
            self.assertIs(is_chain((2, 2), thing), False, thing)
        self.assertIs(is_chain((2, 2), ((),) * 900), False)


class ManyChains(unittest.TestCase):
    """Promise 60: how many chains there are."""

    def counted(self, lots, sizes):
        """How many chains there are, by going through all of them."""
        ends = {}
        for k, size in enumerate(sizes):
            found = {}
            for part, lot in lots.items():
                if len(part) == size:
                    found[part] = sum(many for last, many in ends.items() if lots[last] < lot) if k else 1
            ends = found
        return sum(ends.values()) if sizes else 1

    def test_by_hand(self):
        for space, sizes, want in [((2, 3), (), 1), ((2, 3), (0,), 1), ((2, 3), (3,), 1), ((2, 3), (1,), 7),
                                   ((2, 3), (1, 2), 21), ((2, 3), (0, 1, 2, 3), 21), ((3, 2), (1,), 4), ((5, 3), (1, 2), 186),
                                   ((2, 6), (3,), 1395), ((2, 6), (2, 4), 22785), ((2, 6), (1, 2, 3, 4, 5), 615195)]:
            self.assertEqual(many_chains(space, sizes), want, (space, sizes))

    def test_all_sizes_of_small_spaces(self):
        for space in SMALL + MIDDLE:
            lots = lots_by_parts(space)
            for sizes in rising_tuples(space[1] + 1):
                told = many_chains(space, sizes)
                self.assertIs(type(told), int)
                self.assertEqual(told, self.counted(lots, sizes), (space, sizes))

    def test_chains_are_as_many_as_told(self):
        for space in [(2, 2), (2, 3), (3, 2), (5, 2)]:
            for sizes in rising_tuples(space[1] + 1):
                found = [thing for thing in product(*[all_parts(space, size) for size in sizes]) if is_chain(space, thing)]
                self.assertEqual(len(found), many_chains(space, sizes))

    def test_none_and_all(self):
        for p, n in SPACES:
            want = 1
            for k in range(1, n + 1):
                want *= (p ** k - 1) // (p - 1)
            self.assertEqual(many_chains((p, n), ()), 1)
            self.assertEqual(many_chains((p, n), tuple(range(n + 1))), want)
            self.assertEqual(many_chains((p, n), tuple(range(1, n))), want)
            self.assertEqual(many_chains((p, n), (0, n)), 1)

    def test_what_is_no_rising_tuple_of_sizes(self):
        for p, n in SPACES:
            for sizes in [(n + 1,), (0, n + 1), tuple(range(n + 2)), (-1,), (-1, 0), (0, 0), (n, n), (n, 0), (1, 0), [], [0],
                          [0, 1], [0, n], (True,), (False,), (0, True), (False, 1), ("0",), (0, "1"), (None,), (0, None),
                          (0, [1]), ((0,),), ((),), 0, 1, n, None, True, False, "", "0", "01", {}, {0: 1}, (0, {}),
                          (10 ** 29,), (-(10 ** 29),)]:
                refused(self, NoNumber, many_chains, (p, n), sizes)
        for thing in ODD:
            refused(self, NoNumber, many_chains, (2, 1), thing)
            refused(self, NoNumber, many_chains, (2, 6), (thing,))
        for thing in NO_NUMBERS:
            refused(self, NoNumber, many_chains, (2, 6), (0, 3, thing))
            refused(self, NoNumber, many_chains, (2, 6), (thing, 3, 6))


class Between(unittest.TestCase):
    """Promise 61."""

    def test_by_hand(self):
        whole = ((1, 0), (0, 1))
        self.assertEqual(between((2, 2), (), whole), [(), ((0, 1),), ((1, 0),), ((1, 1),), whole])
        self.assertEqual(between((2, 2), (), ((1, 1),)), [(), ((1, 1),)])
        self.assertEqual(between((2, 2), ((1, 1),), ((1, 1),)), [((1, 1),)])
        self.assertEqual(between((2, 3), ((1, 1, 0),), whole_part((2, 3))),
                         [((1, 1, 0),), ((1, 0, 0), (0, 1, 0)), ((1, 0, 1), (0, 1, 1)), ((1, 1, 0), (0, 0, 1)),
                          whole_part((2, 3))])

    def test_all_pairs(self):
        for space in SMALL + MIDDLE:
            lots = lots_by_parts(space)
            for one in lots:
                for other in lots:
                    if not lots[one] <= lots[other]:
                        refused(self, NotIn, between, space, one, other)
                        continue
                    told = between(space, one, other)
                    self.assertIs(type(told), list)
                    want = [part for part in lots if lots[one] <= lots[part] <= lots[other]]
                    self.assertEqual(told, sorted(want, key=lambda part: (len(part), part)), (space, one, other))

    def test_greatest_spaces(self):
        for space in [(2, 5), (2, 6), (3, 4)]:
            n = space[1]
            whole = whole_part(space)
            self.assertEqual(between(space, (), whole), [part for k in range(n + 1) for part in all_parts(space, k)])
            one = spanned(space, some_rows(space, 1, 5))
            other = spanned(space, list(one) + some_rows(space, 2, 8))
            want = [part for k in range(n + 1) for part in all_parts(space, k)
                    if closure(space, one) <= closure(space, part) <= closure(space, other)]
            self.assertEqual(between(space, one, other), want)

    def test_least_and_whole(self):
        for space in SPACES:
            whole = whole_part(space)
            self.assertEqual(between(space, (), ()), [()])
            self.assertEqual(between(space, whole, whole), [whole])
            refused(self, NotIn, between, space, whole, ())

    def test_no_part_comes_ahead_of_not_in(self):
        refused_without_two_parts(self, between)
        refused(self, NotIn, between, (2, 2), ((1, 0),), ((0, 1),))
        refused(self, NotIn, between, (2, 2), ((1, 0), (0, 1)), ((0, 1),))


class Mark(unittest.TestCase):
    """Promise 62."""

    def marks_by_sums(self, lots, one):
        """The marks of one part and all others, by the document's own sum; lots come by size."""
        marks = {}
        for other, lot in lots.items():
            if one == other:
                marks[other] = 1
            elif not lots[one] <= lot:
                marks[other] = 0
            else:
                marks[other] = -sum(many for part, many in marks.items() if lots[one] <= lots[part] < lot)
        return marks

    def test_by_hand(self):
        for space, one, other, want in [
            ((2, 2), (), (), 1), ((2, 2), (), ((1, 0),), -1), ((2, 2), (), ((1, 0), (0, 1)), 2),
            ((2, 2), ((1, 0),), ((1, 0), (0, 1)), -1), ((2, 2), ((1, 0),), ((0, 1),), 0), ((2, 2), ((1, 0),), (), 0),
            ((2, 2), ((1, 0), (0, 1)), (), 0), ((2, 2), ((1, 1),), ((1, 1),), 1), ((3, 2), (), ((1, 0), (0, 1)), 3),
        ]:
            self.assertEqual(mark(space, one, other), want, (space, one, other))
        for space, want in [((2, 3), -8), ((2, 4), 64), ((2, 5), -1024), ((2, 6), 32768), ((3, 3), -27), ((3, 4), 729),
                            ((5, 2), 5), ((5, 3), -125), ((5, 1), -1)]:
            self.assertEqual(mark(space, (), whole_part(space)), want, space)

    def test_all_pairs_by_the_sum_and_by_the_last_sentence(self):
        for space in SMALL + MIDDLE:
            lots = lots_by_parts(space)
            for one in lots:
                marks = self.marks_by_sums(lots, one)
                for other in lots:
                    told = mark(space, one, other)
                    self.assertIs(type(told), int)
                    self.assertEqual(told, marks[other], (space, one, other))
                    d = len(other) - len(one)
                    power = space[0] ** (d * (d - 1) // 2) if lots[one] <= lots[other] else 0
                    self.assertEqual(told, -power if d % 2 else power)

    def test_marks_between_come_to_nought(self):
        for space in SPACES:
            for other in [whole_part(space), spanned(space, some_rows(space, 2, 4)), spanned(space, [(1,) * space[1]])]:
                self.assertEqual(sum(mark(space, (), part) for part in between(space, (), other)), 0)

    def test_refusals(self):
        refused_without_two_parts(self, mark)


if __name__ == "__main__":
    unittest.main()
