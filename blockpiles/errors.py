"""The exceptions of the package, one for each kind of failure."""


class PileError(ValueError):
    """The base class of all exceptions of the package."""


class InvalidPile(PileError):
    """The value is not a pile."""


class InvalidBlock(PileError):
    """The value is not a block."""


class InvalidNumber(PileError):
    """The value is not a number that may stand there."""


class InvalidContact(PileError):
    """The value is not the number of a contact."""


class InvalidPlace(PileError):
    """The value is not a place of the block."""


class InvalidBounds(PileError):
    """The value does not bound the weights of the pile."""


class InvalidHeld(PileError):
    """The value does not tell which blocks are held."""


class InvalidSide(PileError):
    """The value is not a side."""


class InvalidTower(PileError):
    """The value is not the blocks of a tower."""


class InvalidProps(PileError):
    """The value is not props of the pile."""


class InvalidOffers(PileError):
    """The value is not offers of the pile."""


class Tips(PileError):
    """The pile has no rest."""


class Stands(PileError):
    """The pile has no motion."""


class Inside(PileError):
    """A point would lie inside two blocks."""


class TooMany(PileError):
    """There would be more blocks than a pile may have."""


class NothingToUndo(PileError):
    """There is no step to undo."""


class ParseError(PileError):
    """The text is not the text of a pile."""
