import unittest
from copy import deepcopy
from itertools import product

from common import ODD, SMALL, SPACES, arguments, refused, rows_in, some_turns, turns_by_words, whole_part
from fewspaces import notes
from fewspaces.counts import all_parts
from fewspaces.errors import BadNote
from fewspaces.notes import part_read, part_text, turn_read, turn_text


def text_by_words(rows):
    """Rows as they are written, each number by itself."""
    return "/".join("".join(str(number) for number in row) for row in rows)


def parts_by_texts(space):
    """All parts of a space by their texts."""
    found = {text_by_words(part): part for size in range(1, space[1] + 1) for part in all_parts(space, size)}
    found["none"] = ()
    return found


def bent_texts(text):
    """Texts near a text: a sign too few, a sign twice, a sign put in, a sign changed, at any place."""
    found = {text + "/" + text, text.replace("/", ""), text.replace("/", "//"), text.replace("/", " "), text.upper()}
    for at in range(len(text) + 1):
        found.add(text[:at])
        found.add(text[:at] + text[at + 1:])
        for sign in "0123456789/ -+.,()n~":
            found.add(text[:at] + sign + text[at:])
            found.add(text[:at] + sign + text[at + 1:])
    return sorted(found)


class Everywhere(unittest.TestCase):
    """Promise 1, and the interface, of notes.py."""

    def test_names_and_arguments(self):
        self.assertEqual(arguments(notes.part_text), ["part"])
        self.assertEqual(arguments(notes.turn_text), ["turn"])
        self.assertEqual(arguments(notes.part_read), ["space", "text"])
        self.assertEqual(arguments(notes.turn_read), ["space", "text"])


class Texts(unittest.TestCase):
    """Promise 90: what is written."""

    def test_by_hand(self):
        self.assertEqual(part_text(()), "none")
        self.assertEqual(part_text(((1,),)), "1")
        self.assertEqual(part_text(((1, 0, 1), (0, 1, 1))), "101/011")
        self.assertEqual(part_text(((1, 2, 0, 2), (0, 0, 1, 1))), "1202/0011")
        self.assertEqual(part_text(((1, 4, 3),)), "143")
        self.assertEqual(turn_text(((4,),)), "4")
        self.assertEqual(turn_text(((0, 1), (1, 0))), "01/10")
        self.assertEqual(turn_text(((2, 0), (1, 2))), "20/12")

    def test_all_parts_there_and_back(self):
        for space in SPACES:
            seen = set()
            for size in range(space[1] + 1):
                for part in all_parts(space, size):
                    text = part_text(part)
                    self.assertIs(type(text), str)
                    self.assertEqual(text, text_by_words(part) if part else "none")
                    told = part_read(space, text)
                    self.assertEqual(told, part)
                    self.assertIs(type(told), tuple)
                    self.assertTrue(all(type(row) is tuple and all(type(k) is int for k in row) for row in told))
                    seen.add(text)
            self.assertEqual(len(seen), sum(len(all_parts(space, size)) for size in range(space[1] + 1)))

    def test_turns_there_and_back(self):
        for space in SPACES:
            for turn in (turns_by_words(space) if space in SMALL else some_turns(space, 9)):
                text = turn_text(turn)
                self.assertIs(type(text), str)
                self.assertEqual(text, text_by_words(turn))
                told = turn_read(space, text)
                self.assertEqual(told, turn)
                self.assertIs(type(told), tuple)
                self.assertTrue(all(type(row) is tuple and all(type(k) is int for k in row) for row in told))

    def test_whole_part_and_the_turn_like_it(self):
        for space in SPACES:
            whole = whole_part(space)
            self.assertEqual(part_text(whole), turn_text(whole))
            self.assertEqual(part_read(space, part_text(whole)), whole)
            self.assertEqual(turn_read(space, turn_text(whole)), whole)


class Read(unittest.TestCase):
    """Promise 90: just what is so written is read."""

    def check(self, deed, space, known, text):
        """The text is read as what is known by it, and refused where nothing is."""
        if text in known:
            self.assertEqual(deed(space, text), known[text])
        else:
            refused(self, BadNote, deed, space, text)

    def test_all_short_texts(self):
        for space, signs, most in [((2, 1), "01/2 ne", 5), ((3, 1), "0123/ ", 5), ((5, 1), "01456/", 4), ((2, 2), "01/ 2", 6),
                                   ((3, 2), "0123/", 5)]:
            parts = parts_by_texts(space)
            turns = {text_by_words(turn): turn for turn in turns_by_words(space)}
            for length in range(most + 1):
                for text in map("".join, product(signs, repeat=length)):
                    self.check(part_read, space, parts, text)
                    self.check(turn_read, space, turns, text)

    def test_texts_near_those_that_are_read(self):
        for space in [(2, 2), (2, 3), (3, 2), (5, 2), (2, 6), (3, 4), (5, 3)]:
            parts = parts_by_texts(space)
            for text in sorted(parts)[::max(len(parts) // 8, 1)] + ["none", text_by_words(whole_part(space))]:
                for other in bent_texts(text):
                    self.check(part_read, space, parts, other)
        for space in [(2, 2), (2, 3), (3, 2), (5, 2)]:
            turns = {text_by_words(turn): turn for turn in turns_by_words(space)}
            for text in sorted(turns)[::len(turns) // 6]:
                for other in bent_texts(text):
                    self.check(turn_read, space, turns, other)

    def test_by_hand(self):
        for text in ["", " ", "/", "//", "10/", "/10", "10//01", "1 0", " 10", "10 ", "10/01/", "/10/01", "10 /01", "1", "100",
                     "10/0", "10/011", "12", "20", "-1", "+1", "1.", "01/10", "11/01", "00", "10/00", "10/10", "None", "NONE",
                     "none ", " none", "nonenone", "none/10", "10/none", "()", "(1, 0)", "1,0", "10\\01", "10|01", "ten", "~"]:
            refused(self, BadNote, part_read, (2, 2), text)
        for text in ["", " ", "/", "//", "10", "10/", "/10", "10//01", "10/01/", "/10/01", "10/10", "00/10", "11/11", "10/01/11",
                     "none", "None", "12/01", "10/0", "10/010", "1/0", "10 01", "10/01 ", " 10/01", "10/0-1", "(10/01)"]:
            refused(self, BadNote, turn_read, (2, 2), text)
        self.assertEqual(turn_read((2, 2), "01/10"), ((0, 1), (1, 0)))
        self.assertEqual(turn_read((2, 2), "11/01"), ((1, 1), (0, 1)))

    def test_none_is_no_turn(self):
        for space in SPACES:
            refused(self, BadNote, turn_read, space, "none")
            self.assertEqual(part_read(space, "none"), ())

    def test_numbers_beyond(self):
        for p, n in SPACES:
            for figure in range(10):
                text = text_by_words([(1,) + (figure,) * (n - 1)])
                if n > 1 and figure >= p:
                    refused(self, BadNote, part_read, (p, n), text)
                elif n > 1:
                    self.assertEqual(part_read((p, n), text), ((1,) + (figure,) * (n - 1),))
            for figure in range(1, 10):
                rows = [tuple(figure if k == j else 0 for j in range(n)) for k in range(n)]
                if figure < p:
                    self.assertEqual(turn_read((p, n), text_by_words(rows)), tuple(rows))
                else:
                    refused(self, BadNote, turn_read, (p, n), text_by_words(rows))

    def test_texts_of_other_spaces(self):
        for space in SPACES:
            for other in SPACES:
                if space[1] != other[1]:
                    text = text_by_words(whole_part(other))
                    refused(self, BadNote, part_read, space, text)
                    refused(self, BadNote, turn_read, space, text)

    def test_single_rows_of_small_spaces(self):
        for space in SMALL:
            parts = parts_by_texts(space)
            for row in rows_in(space):
                self.check(part_read, space, parts, text_by_words([row]))

    def test_long_texts(self):
        for text in ["1" * 80, "10/" * 26, "/" * 80, " " * 80, "~" * 80, "none" * 20, "10" * 40]:
            refused(self, BadNote, part_read, (2, 2), text)
            refused(self, BadNote, turn_read, (2, 2), text)

    def test_what_is_no_text(self):
        for thing in [odd for odd in ODD if not isinstance(odd, str)] + [(), ((1, 0),), ((1, 0), (0, 1)), 10, 1, ["10/01"]]:
            before = deepcopy(thing)
            refused(self, BadNote, part_read, (2, 2), thing)
            refused(self, BadNote, turn_read, (2, 2), thing)
            self.assertEqual(thing, before)


if __name__ == "__main__":
    unittest.main()
