"""What is refused: one class for each refusal, each made with a text."""


class SpaceError(ValueError):
    """Stands above all refusals of this package."""


class NoRow(SpaceError):
    """What was handed in is no row of the space."""


class NoPart(SpaceError):
    """What was handed in is no part of the space, or nothing is kept by the name."""


class NoNumber(SpaceError):
    """What was handed in is no whole number within the bounds."""


class NoHeads(SpaceError):
    """What was handed in is no rising tuple of places of the space."""


class NotBeside(SpaceError):
    """The two parts are not beside one another."""


class NotIn(SpaceError):
    """The one part doesn't lie in the other."""


class NoTurn(SpaceError):
    """What was handed in is no turn of the space."""


class NoLot(SpaceError):
    """What was handed in is no lot apart."""


class TooMany(SpaceError):
    """The space is too great for what is asked."""


class BadNote(SpaceError):
    """The text or the line can't be read."""
