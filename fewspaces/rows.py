"""Whole numbers and rows, as the other modules need them: none of it refuses anything."""


def is_whole(thing, least, greatest):
    """Whether a thing, anything, is a whole number from least to greatest."""
    # Python counts True and False among the ints; here they are no numbers.
    return isinstance(thing, int) and not isinstance(thing, bool) and least <= thing <= greatest


def is_rising(things):
    """Whether each thing is greater than the one ahead."""
    return all([one < other for one, other in zip(things, things[1:])])


def is_rising_tuple(thing, greatest):
    """Whether a thing, anything, is a rising tuple of whole numbers from 0 to greatest, perhaps none."""
    if not isinstance(thing, tuple):
        return False
    return all([is_whole(number, 0, greatest) for number in thing]) and is_rising(thing)


def power(number, many):
    """The number multiplied with itself so many times; 1 where that is none."""
    found = 1
    for k in range(many):
        found *= number
    return found


def head_of(row):
    """The first place that isn't 0; None of a row of noughts."""
    for place, number in enumerate(row):
        if number != 0:
            return place
    return None


def one_at(n, place):
    """The row of n numbers that has 1 at the place, and 0 at the others."""
    return (0,) * place + (1,) + (0,) * (n - place - 1)


def times(p, row, number):
    """The row times the number."""
    return tuple([number * mine % p for mine in row])


def plus_times(p, row, other, number):
    """The row, with the other one times the number added."""
    return tuple([(mine + number * its) % p for mine, its in zip(row, other)])


def inverse(p, number):
    """What comes to 1 with the number multiplied; the number isn't 0."""
    found = 1
    while found * number % p != 1:
        found += 1
    return found


def cleared(p, row, other, head):
    """The row, with so many times the other one (1 at its head) taken away that it has 0 there."""
    return plus_times(p, row, other, -row[head])


def are_against(p, row, other):
    """Whether the products of the two rows' numbers, place by place, come to 0 added."""
    return sum([mine * its for mine, its in zip(row, other)]) % p == 0


def noughts_at(rows, place):
    """Whether all rows have 0 at the place."""
    return all([row[place] == 0 for row in rows])
