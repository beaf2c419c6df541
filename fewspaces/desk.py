"""A desk that keeps parts of a space by names, and is told lines."""

from fewspaces.againsts import against, is_bent
from fewspaces.counts import number_of
from fewspaces.errors import BadNote, NoPart
from fewspaces.joins import joined, lies_in, met
from fewspaces.misses import many_beside, miss
from fewspaces.notes import part_read, part_text, turn_read
from fewspaces.turns import led

MOST_LETTERS = 8

# What stands behind the first word of each line: A is the name of a part that is kept, N the name by which the part
# that comes of the line is kept from then on, P a part as written, T a turn as written.
FORMS = {
    "part": "NP", "join": "AAN", "meet": "AAN", "against": "AN", "lead": "ATN",
    "kept": "", "show": "A", "size": "A", "number": "A", "beside": "A", "in": "AA", "miss": "AA", "bent": "A",
}


def form_of(word, words):
    """The form of the line that begins with the word, and has the words behind it."""
    if word not in FORMS:
        raise BadNote("no line begins with this word")
    form = FORMS[word]
    if len(words) != len(form):
        raise BadNote(f"{len(form)} words stand behind {word}")
    return form


def word_read(space, sign, word):
    """What the word means by the sign of its form: a part, a turn, or a name, whether a part is kept by it or not."""
    if sign == "P":
        return part_read(space, word)
    if sign == "T":
        return turn_read(space, word)
    if not is_name(word):
        raise BadNote(f"a name has 1 to {MOST_LETTERS} small letters from a to z")
    return word


def is_name(word):
    """Whether the word is 1 to 8 small letters from a to z."""
    return 1 <= len(word) <= MOST_LETTERS and all(["a" <= sign <= "z" for sign in word])


def part_made(space, word, things):
    """The part that the line that begins with the word keeps; things are its parts and its turn, in their order."""
    if word == "join":
        return joined(space, things[0], things[1])
    if word == "meet":
        return met(space, things[0], things[1])
    if word == "against":
        return against(space, things[0])
    if word == "lead":
        return led(space, things[1], things[0])
    return things[0]


def answer_about(space, word, parts):
    """The answer to the line that begins with the word, and asks something of the parts."""
    if word == "show":
        return part_text(parts[0])
    if word == "size":
        return str(len(parts[0]))
    if word == "number":
        return str(number_of(space, parts[0]))
    if word == "beside":
        return str(many_beside(space, parts[0]))
    if word == "in":
        return yes_or_no(lies_in(space, parts[0], parts[1]))
    if word == "miss":
        return yes_or_no(miss(space, parts[0], parts[1]))
    return yes_or_no(is_bent(space, parts[0]))


def yes_or_no(truth):
    """The truth as a desk answers it."""
    return "yes" if truth else "no"


class Desk:
    """Keeps parts of a space by names."""

    def __init__(self, space):
        self.space = space
        self.parts = {}

    def say(self, line):
        """Does what the line says, and answers with a text."""
        if not isinstance(line, str):
            raise BadNote("this is no text")
        word, *words = line.split(" ")
        form = form_of(word, words)
        read = [word_read(self.space, sign, other) for sign, other in zip(form, words)]
        # All words are read by now: what is no line is refused ahead of a name by which nothing is kept.
        things = [self.meant(sign, thing) for sign, thing in zip(form, read) if sign != "N"]
        if word == "kept":
            return " ".join(sorted(self.parts))
        if "N" not in form:
            return answer_about(self.space, word, things)
        name = read[form.index("N")]
        self.parts[name] = part_made(self.space, word, things)
        return "ok"

    def meant(self, sign, thing):
        """The part that is kept by a name, by the sign of its form; what is no such name means itself."""
        if sign != "A":
            return thing
        if thing not in self.parts:
            raise NoPart(f"nothing is kept by the name {thing}")
        return self.parts[thing]
