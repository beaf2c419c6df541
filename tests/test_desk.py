import unittest
from copy import deepcopy

from common import (MIDDLE, ODD, SMALL, SPACES, arguments, closure, led_by_words, lots_by_parts, refused, rows_in,
                    some_turns, whole_part)
from fewspaces.counts import all_parts
from fewspaces.desk import Desk
from fewspaces.errors import BadNote, NoPart
from fewspaces.notes import part_text, turn_text

NO_NAMES = ["", "A", "aB", "a1", "1", "1a", "a_", "_a", "a-b", "-", "abcdefghi", "abcdefghij", "a" * 60, "a.", ".a", "a/b",
            "10", "a~", "~", "{", "`", "@", "[", "aaaaaaaA", "Aaaaaaaa", "aaaaaaa1", "aaaa aaaa"]
NO_PART_TEXTS = ["", "None", "NONE", "none/", "10/", "/10", "10//01", "01/10", "11/01", "00", "12", "1", "100", "()", "a",
                 "none none", "10 01"]
NO_TURN_TEXTS = ["", "none", "10", "10/10", "10/00", "10/01/", "/10/01", "10//01", "10/01/11", "12/01", "10/0", "a",
                 "10 01"]


def all_forms(a, b, name, part, turn):
    """A line of each kind, with the names and texts that are handed in."""
    return [
        f"part {name} {part}", f"join {a} {b} {name}", f"meet {a} {b} {name}", f"against {a} {name}",
        f"lead {a} {turn} {name}", "kept", f"show {a}", f"size {a}", f"number {a}", f"beside {a}", f"in {a} {b}",
        f"miss {a} {b}", f"bent {a}",
    ]


def desk_with(space, **parts):
    """A desk that keeps these parts."""
    desk = Desk(space)
    for name, part in parts.items():
        desk.say(f"part {name} {part_text(part)}")
    return desk


def all_kept(desk):
    """All that a desk keeps: the texts by the names."""
    return {name: desk.say(f"show {name}") for name in desk.say("kept").split()}


def unchanged(case, desk, error, line):
    """The line is refused with the error, and nothing that is kept changes."""
    before = all_kept(desk)
    refused(case, error, desk.say, line)
    case.assertEqual(all_kept(desk), before, line)


class Everywhere(unittest.TestCase):
    """Promise 1, and the interface, of desk.py."""

    def test_names_and_arguments(self):
        self.assertEqual(arguments(Desk), ["space"])
        self.assertEqual(arguments(Desk((2, 1)).say), ["line"])

    def test_asked_again_the_same_is_answered(self):
        desk = desk_with((2, 2), a=((1, 0),), b=((1, 1),))
        for line in all_forms("a", "b", "c", "10", "01/10"):
            self.assertEqual(desk.say("part a 10"), "ok")
            self.assertEqual(desk.say("part c 10"), "ok")
            one = desk.say(line)
            self.assertEqual(desk.say(line), one)


class Lines(unittest.TestCase):
    """Promise 91."""

    def test_by_hand(self):
        desk = Desk((2, 3))
        for line, answer in [
            ("kept", ""), ("part a 110", "ok"), ("kept", "a"), ("show a", "110"), ("size a", "1"), ("number a", "5"),
            ("beside a", "4"), ("bent a", "yes"), ("part b 011", "ok"), ("join a b c", "ok"), ("show c", "101/011"),
            ("size c", "2"), ("number c", "5"), ("beside c", "4"), ("bent c", "no"), ("in a c", "yes"), ("in c a", "no"),
            ("in c c", "yes"), ("miss a b", "yes"), ("miss a c", "no"), ("meet a c d", "ok"), ("show d", "110"),
            ("meet a b none", "ok"), ("show none", "none"), ("size none", "0"), ("number none", "0"), ("beside none", "1"),
            ("bent none", "yes"), ("against a e", "ok"), ("show e", "110/001"), ("lead a 001/010/100 f", "ok"),
            ("show f", "011"), ("kept", "a b c d e f none"), ("part whole 100/010/001", "ok"), ("beside whole", "1"),
            ("size whole", "3"), ("number whole", "0"), ("bent whole", "no"), ("kept", "a b c d e f none whole"),
        ]:
            told = desk.say(line)
            self.assertIs(type(told), str)
            self.assertEqual(told, answer, line)

    def test_all_parts_of_small_spaces(self):
        for space in SMALL:
            p, n = space
            desk = Desk(space)
            for size in range(n + 1):
                for number, part in enumerate(all_parts(space, size)):
                    self.assertEqual(desk.say(f"part a {part_text(part)}"), "ok")
                    self.assertEqual(desk.say("show a"), part_text(part))
                    self.assertEqual(desk.say("size a"), str(size))
                    self.assertEqual(desk.say("number a"), str(number))
                    self.assertEqual(desk.say("beside a"), str(p ** (size * (n - size))))

    def check_two(self, space, lots, one, other):
        """All lines of one part and another one, by the rows that they hold."""
        by_lot = {lot: part for part, lot in lots.items()}
        desk = desk_with(space, a=one, b=other)
        mine, its = lots[one], lots[other]
        self.assertEqual(desk.say("in a b"), "yes" if mine <= its else "no")
        self.assertEqual(desk.say("miss a b"), "yes" if mine & its == {(0,) * space[1]} else "no")
        self.assertEqual(desk.say("join a b c"), "ok")
        self.assertEqual(desk.say("show c"), part_text(by_lot[closure(space, one + other)]))
        self.assertEqual(desk.say("meet a b c"), "ok")
        self.assertEqual(desk.say("show c"), part_text(by_lot[mine & its]))
        self.assertEqual([desk.say("show a"), desk.say("show b")], [part_text(one), part_text(other)])
        self.assertEqual(desk.say("kept"), "a b c")

    def test_all_pairs_of_small_spaces(self):
        for space in SMALL:
            lots = lots_by_parts(space)
            for one in lots:
                for other in lots:
                    self.check_two(space, lots, one, other)

    def test_pairs_of_greater_spaces(self):
        for space in MIDDLE:
            lots = lots_by_parts(space)
            for one in list(lots)[::13]:
                for other in list(lots)[::11]:
                    self.check_two(space, lots, one, other)

    def test_against_bent_and_lead(self):
        for space in SMALL + MIDDLE:
            lots = lots_by_parts(space)
            by_lot = {lot: part for part, lot in lots.items()}
            for part in list(lots)[::1 if space in SMALL else 9]:
                desk = desk_with(space, a=part)
                far = frozenset(row for row in rows_in(space)
                                if all(sum(x * y for x, y in zip(row, other)) % space[0] == 0 for other in part))
                self.assertEqual(desk.say("against a b"), "ok")
                self.assertEqual(desk.say("show b"), part_text(by_lot[far]))
                self.assertEqual(desk.say("bent a"), "yes" if lots[part] <= far else "no")
                for turn in some_turns(space, 3):
                    self.assertEqual(desk.say(f"lead a {turn_text(turn)} b"), "ok")
                    led = frozenset(led_by_words(space, turn, row) for row in lots[part])
                    self.assertEqual(desk.say("show b"), part_text(by_lot[led]))
                self.assertEqual(desk.say("show a"), part_text(part))

    def test_figures_of_all_spaces(self):
        for p, n in SPACES:
            for size in range(n + 1):
                parts = all_parts((p, n), size)
                for number in [0, len(parts) // 2, len(parts) - 1]:
                    desk = desk_with((p, n), a=parts[number])
                    self.assertEqual(desk.say("size a"), f"{size}")
                    self.assertEqual(desk.say("number a"), f"{number}")
                    self.assertEqual(desk.say("beside a"), f"{p ** (size * (n - size))}")
                    self.assertEqual(desk.say("show a"), part_text(parts[number]))

    def test_names(self):
        desk = Desk((3, 2))
        names = ["z", "a", "abcdefgh", "zzzzzzzz", "aa", "ab", "part", "kept", "none", "show", "in", "miss", "join", "b"]
        for name in names:
            self.assertEqual(desk.say(f"part {name} 12"), "ok")
            self.assertEqual(desk.say(f"show {name}"), "12")
        self.assertEqual(desk.say("kept"), " ".join(sorted(names)))
        for letter in "abcdefghijklmnopqrstuvwxyz":
            self.assertEqual(desk.say(f"part {letter} 01"), "ok")
            self.assertEqual(desk.say(f"show {letter}"), "01")
        self.assertEqual(desk.say("kept"), " ".join(sorted(set(names) | set("abcdefghijklmnopqrstuvwxyz"))))

    def test_kept_in_the_order_of_texts(self):
        desk = Desk((2, 1))
        self.assertEqual(desk.say("kept"), "")
        for name, kept in [("b", "b"), ("c", "b c"), ("ab", "ab b c"), ("a", "a ab b c"), ("ba", "a ab b ba c"),
                           ("b", "a ab b ba c")]:
            desk.say(f"part {name} none")
            self.assertEqual(desk.say("kept"), kept)

    def test_a_name_kept_anew(self):
        desk = desk_with((2, 3), a=((1, 1, 0),), b=((0, 1, 1),), c=((1, 0, 0),))
        for line, shown in [
            ("part a 111", {"a": "111", "b": "011", "c": "100"}), ("part a 110", {"a": "110", "b": "011", "c": "100"}),
            ("join a b a", {"a": "101/011", "b": "011", "c": "100"}), ("meet a b b", {"a": "101/011", "b": "011", "c": "100"}),
            ("join a c c", {"a": "101/011", "b": "011", "c": "100/010/001"}),
            ("against a a", {"a": "111", "b": "011", "c": "100/010/001"}),
            ("meet a b b", {"a": "111", "b": "none", "c": "100/010/001"}),
            ("lead a 100/010/011 a", {"a": "101", "b": "none", "c": "100/010/001"}),
            ("join a a a", {"a": "101", "b": "none", "c": "100/010/001"}),
            ("meet c c a", {"a": "100/010/001", "b": "none", "c": "100/010/001"}),
            ("against a a", {"a": "none", "b": "none", "c": "100/010/001"}),
        ]:
            self.assertEqual(desk.say(line), "ok")
            self.assertEqual(all_kept(desk), shown, line)

    def test_what_is_asked_changes_nothing(self):
        desk = desk_with((2, 2), a=((1, 0),), b=((1, 1),))
        before = all_kept(desk)
        for line in ["kept", "show a", "size a", "number b", "beside a", "in a b", "in b a", "miss a b", "bent b"]:
            desk.say(line)
            self.assertEqual(all_kept(desk), before)


class NoLines(unittest.TestCase):
    """Promise 92."""

    def setUp(self):
        self.desk = desk_with((2, 2), a=((1, 0),), b=((1, 1),))

    def bad(self, line):
        unchanged(self, self.desk, BadNote, line)

    def test_good_lines_are_none_of_these(self):
        for line in all_forms("a", "b", "c", "10", "01/10"):
            self.desk.say(line)

    def test_words_too_many_or_too_few(self):
        for line in all_forms("a", "b", "c", "10", "01/10"):
            words = line.split(" ")
            for at in range(len(words)):
                fewer = " ".join(words[:at] + words[at + 1:])
                self.bad(fewer)
                self.bad(" ".join(words[:at + 1] + words[at:]))
            for more in ["a", "b", "10", "none", "01/10", "x", "kept"]:
                self.bad(f"{line} {more}")
        self.bad("")

    def test_blanks(self):
        for line in all_forms("a", "b", "c", "10", "01/10"):
            for other in [" " + line, line + " ", "  " + line, line + "  ", " " + line + " "]:
                self.bad(other)
            for at, sign in enumerate(line):
                if sign == " ":
                    self.bad(line[:at] + " " + line[at:])
                    self.bad(line[:at] + "  " + line[at:])
                    self.bad(line[:at] + line[at + 1:])
                    self.bad(line[:at] + "," + line[at + 1:])
        for line in [" ", "  ", " " * 80]:
            self.bad(line)

    def test_other_words_and_capitals(self):
        for line in all_forms("a", "b", "c", "10", "01/10"):
            word, *words = line.split(" ")
            for other in [word.upper(), word.capitalize(), word + "s", word[:-1], word[1:], "x" + word, "do", "", "a", "1", "/"]:
                self.bad(" ".join([other] + words))
            self.bad(line.upper())
        for line in ["help", "keep a 10", "drop a", "parts", "lies a b", "beside a b", "against a b c", "number 1", "size",
                     "ok", "yes", "no", "none", "10", "a", "~", "kept a", "kept kept", "Kept", "KEPT"]:
            self.bad(line)

    def test_names_that_are_none(self):
        for name in NO_NAMES:
            good = all_forms("a", "b", "c", "10", "01/10")
            for place in range(3):
                names = ["a", "b", "c"]
                names[place] = name
                for line, other in zip(all_forms(*names, "10", "01/10"), good):
                    if line != other:
                        self.bad(line)

    def test_sign_that_is_no_small_letter_at_each_place(self):
        for length in [1, 2, 8]:
            for at in range(length):
                for sign in "AZ09_-/.`{@[~":
                    name = "m" * at + sign + "m" * (length - at - 1)
                    self.bad(f"part {name} 10")
                    self.bad(f"show {name}")
                    self.bad(f"join a b {name}")

    def test_texts_that_write_none(self):
        for text in NO_PART_TEXTS:
            self.bad(f"part a {text}")
            self.bad(f"part c {text}")
        for text in NO_TURN_TEXTS:
            self.bad(f"lead a {text} a")
            self.bad(f"lead a {text} c")
        # A turn that is no part, and a part that is no turn.
        self.bad("part a 01/10")
        self.bad("lead a 10 a")
        self.assertEqual(self.desk.say("lead a 01/10 a"), "ok")
        self.assertEqual(self.desk.say("part a 10"), "ok")

    def test_texts_of_other_spaces(self):
        for space in SPACES:
            for other in SPACES:
                if space[1] != other[1]:
                    desk = desk_with(space, a=())
                    text = part_text(whole_part(other))
                    unchanged(self, desk, BadNote, f"part a {text}")
                    unchanged(self, desk, BadNote, f"lead a {text} b")

    def test_what_is_no_text(self):
        for thing in ODD + [(), ["kept"], ("kept",), {"kept": True}, ["show", "a"], 0, 1]:
            before = deepcopy(thing)
            self.bad(thing)
            self.assertEqual(thing, before)

    def test_bad_note_comes_ahead_of_no_part(self):
        for line in ["show x y", "show", "show X", "join x b", "join x y z a", "join x y Z", "join x y abcdefghi", "join x Y z",
                     "meet x y 1", "against x", "against x Y", "lead x 10 c", "lead x none c", "lead x 10/10 c", "lead x 01/10 C",
                     "lead x 01/10", "lead x 01/10 c d", "in x", "in x Y", "in X y", "in x y z", "miss x ", " miss x y",
                     "miss x  y", "bent x x", "bent x ", "size x x", "number x 1", "beside x y", "Show x", "drop x"]:
            self.bad(line)


class NotKept(unittest.TestCase):
    """Promise 92: names by which nothing is kept."""

    def test_lines_with_such_a_name_at_any_place(self):
        desk = desk_with((2, 2), a=((1, 0),), b=((1, 1),))
        for name in ["x", "aa", "ab", "abcdefgh", "none", "kept"]:
            for line in [f"against {name} c", f"against {name} {name}", f"lead {name} 01/10 c", f"lead {name} 01/10 a",
                         f"show {name}", f"size {name}", f"number {name}", f"beside {name}", f"bent {name}"]:
                unchanged(self, desk, NoPart, line)
            for one, other in [(name, "a"), ("a", name), (name, name), (name, "y"), ("y", name)]:
                for line in [f"join {one} {other} c", f"join {one} {other} a", f"meet {one} {other} c", f"in {one} {other}",
                             f"meet {one} {other} {name}", f"miss {one} {other}"]:
                    unchanged(self, desk, NoPart, line)

    def test_on_an_empty_desk(self):
        for space in SPACES:
            desk = Desk(space)
            turn = turn_text(whole_part(space))
            for line in all_forms("a", "b", "c", "none", turn):
                if line.split(" ")[0] not in ["part", "kept"]:
                    unchanged(self, desk, NoPart, line)
            self.assertEqual(desk.say("kept"), "")

    def test_the_name_that_is_kept_by_need_not_be_there(self):
        desk = desk_with((2, 2), a=((1, 0),), b=((1, 1),))
        for line in ["join a b new", "meet a b other", "against a third", "lead a 01/10 fourth", "part fifth none"]:
            self.assertEqual(desk.say(line), "ok")
        self.assertEqual(desk.say("kept"), "a b fifth fourth new other third")

    def test_a_name_is_not_kept_by_a_refused_line(self):
        desk = desk_with((2, 2), a=((1, 0),))
        for line in ["join a x c", "join x a a", "join a c c", "against c c", "lead c 01/10 c", "meet c c c"]:
            unchanged(self, desk, NoPart, line)
        self.assertEqual(desk.say("kept"), "a")
        self.assertEqual(desk.say("show a"), "10")


class TwoDesks(unittest.TestCase):
    """Promise 92: two desks have nothing in common."""

    def test_of_one_space(self):
        space = (2, 2)
        one, other = Desk(space), Desk(space)
        one.say("part a 10")
        self.assertEqual(other.say("kept"), "")
        refused(self, NoPart, other.say, "show a")
        other.say("part a 11")
        other.say("part b 01")
        self.assertEqual(all_kept(one), {"a": "10"})
        self.assertEqual(all_kept(other), {"a": "11", "b": "01"})
        one.say("join a a b")
        self.assertEqual(all_kept(other), {"a": "11", "b": "01"})
        self.assertEqual(Desk(space).say("kept"), "")

    def test_of_two_spaces(self):
        one, other = Desk((2, 3)), Desk((3, 2))
        one.say("part a 101")
        other.say("part a 12")
        self.assertEqual([one.say("show a"), other.say("show a")], ["101", "12"])
        refused(self, BadNote, one.say, "part a 12")
        refused(self, BadNote, other.say, "part a 101")
        self.assertEqual([one.say("beside a"), other.say("beside a")], ["4", "3"])


if __name__ == "__main__":
    unittest.main()
