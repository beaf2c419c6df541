"""Promise 1 and the interface, over the whole program."""

import unittest
from copy import deepcopy
from importlib import import_module

from common import ODD, REFUSALS, arguments
from fewspaces import errors

# Each name of the interface, its arguments, and what it may be asked.
INTERFACE = {
    "spaces": {
        "is_space": (["thing"], [(2, 3)]),
        "is_row": (["space", "thing"], [(2, 3), (1, 0, 1)]),
        "is_part": (["space", "thing"], [(2, 3), ((1, 0, 1),)]),
        "spanned": (["space", "rows"], [(3, 2), [(1, 2), (2, 1)]]),
        "holds": (["space", "part", "row"], [(3, 2), ((1, 2),), (2, 1)]),
        "rows_of": (["space", "part"], [(3, 2), ((1, 2),)]),
    },
    "joins": {
        "joined": (["space", "one", "other"], [(3, 2), ((1, 2),), ((1, 1),)]),
        "met": (["space", "one", "other"], [(3, 2), ((1, 2),), ((1, 0), (0, 1))]),
        "lies_in": (["space", "one", "other"], [(3, 2), ((1, 2),), ((1, 1),)]),
        "first_beyond": (["space", "one", "other"], [(3, 2), ((1, 2),), ((1, 1),)]),
    },
    "counts": {
        "box": (["p", "n", "k"], [5, 7, 3]),
        "all_parts": (["space", "size"], [(2, 3), 2]),
        "number_of": (["space", "part"], [(2, 3), ((1, 0, 1),)]),
        "part_of": (["space", "size", "number"], [(2, 3), 2, 4]),
        "heads": (["space", "part"], [(2, 3), ((1, 0, 1),)]),
        "with_heads": (["space", "places"], [(2, 3), (0, 2)]),
    },
    "againsts": {
        "against": (["space", "part"], [(3, 3), ((1, 0, 1),)]),
        "is_bent": (["space", "part"], [(3, 3), ((1, 1, 1),)]),
        "bent_parts": (["space", "size"], [(3, 3), 1]),
    },
    "misses": {
        "miss": (["space", "one", "other"], [(3, 2), ((1, 2),), ((1, 1),)]),
        "are_beside": (["space", "one", "other"], [(3, 2), ((1, 2),), ((1, 1),)]),
        "all_beside": (["space", "part"], [(3, 2), ((1, 2),)]),
        "parted": (["space", "one", "other", "row"], [(3, 2), ((1, 2),), ((1, 1),), (0, 1)]),
    },
    "chains": {
        "is_chain": (["space", "thing"], [(3, 2), ((), ((1, 2),))]),
        "many_chains": (["space", "sizes"], [(3, 2), (0, 1)]),
        "between": (["space", "one", "other"], [(3, 2), (), ((1, 0), (0, 1))]),
        "mark": (["space", "one", "other"], [(3, 2), (), ((1, 0), (0, 1))]),
    },
    "turns": {
        "is_turn": (["space", "thing"], [(3, 2), ((2, 1), (0, 1))]),
        "led_row": (["space", "turn", "row"], [(3, 2), ((2, 1), (0, 1)), (1, 2)]),
        "led": (["space", "turn", "part"], [(3, 2), ((2, 1), (0, 1)), ((1, 2),)]),
        "behind": (["space", "one", "other"], [(3, 2), ((2, 1), (0, 1)), ((0, 1), (1, 0))]),
        "back": (["space", "turn"], [(3, 2), ((2, 1), (0, 1))]),
        "round_of": (["space", "turn"], [(3, 2), ((2, 1), (0, 1))]),
        "many_turns": (["space"], [(3, 2)]),
        "lots_of": (["space", "turn", "size"], [(3, 2), ((2, 1), (0, 1)), 1]),
        "some_turn": (["space", "one", "other"], [(3, 2), ((1, 2),), ((0, 1),)]),
    },
    "lots": {
        "is_apart": (["space", "size", "thing"], [(2, 2), 1, (((0, 1),), ((1, 1),))]),
        "is_full": (["space", "size", "lot"], [(2, 2), 1, (((0, 1),), ((1, 1),))]),
        "some_full": (["space", "size"], [(2, 4), 2]),
        "filled": (["space", "size", "lot"], [(2, 2), 1, (((1, 1),),)]),
    },
    "notes": {
        "part_text": (["part"], [((1, 0, 1),)]),
        "turn_text": (["turn"], [((2, 1), (0, 1))]),
        "part_read": (["space", "text"], [(2, 3), "101"]),
        "turn_read": (["space", "text"], [(3, 2), "21/01"]),
    },
    "desk": {},
}
# Of these anything may be asked in the last place, and they answer True or False.
OF_ANYTHING = ["is_space", "is_row", "is_part", "is_chain", "is_turn", "is_apart"]
# For what is handed in here no refusal is told.
WITHOUT_REFUSAL = ["many_turns", "part_text", "turn_text"]


def all_deeds():
    """Each name of the interface with the deed itself, its arguments' names and what it may be asked."""
    for module, deeds in INTERFACE.items():
        for name, (names, things) in deeds.items():
            yield name, getattr(import_module(f"fewspaces.{module}"), name), names, things


def is_plain(thing):
    """Whether a thing is built of whole numbers, truths, None, texts, tuples and lists, by their very classes."""
    if type(thing) in (tuple, list):
        return all(is_plain(inner) for inner in thing)
    return thing is None or type(thing) in (int, bool, str)


class Interface(unittest.TestCase):
    def test_names_and_arguments(self):
        for name, deed, names, things in all_deeds():
            self.assertEqual(arguments(deed), names, name)

    def test_errors(self):
        for name in REFUSALS:
            self.assertIs(getattr(errors, name).__base__, errors.SpaceError)
        self.assertIs(errors.SpaceError.__base__, ValueError)

    def test_desk(self):
        desk = import_module("fewspaces.desk").Desk
        self.assertEqual(arguments(desk), ["space"])
        self.assertEqual(arguments(desk((5, 3)).say), ["line"])


class Everywhere(unittest.TestCase):
    def test_the_same_again_and_nothing_changed(self):
        for name, deed, names, things in all_deeds():
            before = deepcopy(things)
            told = deed(*things)
            self.assertTrue(is_plain(told), name)
            self.assertEqual(things, before, name)
            self.assertEqual(deed(*things), told, name)
            self.assertEqual(deed(*deepcopy(things)), told, name)

    def test_a_told_list_is_the_askers_own(self):
        told_lists = []
        for name, deed, names, things in all_deeds():
            one, other = deed(*things), deed(*things)
            if not isinstance(one, list):
                continue
            told_lists.append(name)
            kept = tuple(one)
            self.assertIsNot(one, other, name)
            self.assertFalse(any(one is thing for thing in things), name)
            one.reverse()
            one.append("more")
            other.clear()
            self.assertEqual(deed(*things), list(kept), name)
        self.assertEqual(sorted(told_lists), sorted(["rows_of", "all_parts", "with_heads", "bent_parts", "all_beside",
                                                     "between", "lots_of"]))

    def test_odd_things_at_each_place_are_left_alone_and_refused(self):
        for name, deed, names, things in all_deeds():
            if name in WITHOUT_REFUSAL:
                continue
            for place in range(0 if names[0] in ("p", "thing") else 1, len(names)):
                for odd in ODD:
                    before = deepcopy(odd)
                    try:
                        told = deed(*things[:place], odd, *things[place + 1:])
                    except errors.SpaceError as error:
                        self.assertIn(type(error).__name__, REFUSALS, name)
                        self.assertFalse(name in OF_ANYTHING and place == len(names) - 1, (name, odd))
                    else:
                        self.assertTrue(is_plain(told), (name, odd))
                    self.assertEqual(odd, before, name)

    def test_lists_changed_later_are_not_asked_again(self):
        spanned = import_module("fewspaces.spaces").spanned
        rows = [(1, 2), (2, 1)]
        part = spanned((3, 2), rows)
        rows[0] = (1, 1)
        self.assertEqual(part, ((1, 2),))
        self.assertEqual(spanned((3, 2), rows), ((1, 0), (0, 1)))


if __name__ == "__main__":
    unittest.main()
