"""The refusals of Shelfrows, one error class for each kind."""


class ShelfError(ValueError):
    """Any refusal."""


class NoRow(ShelfError):
    """What was handed in is no row."""


class NoShelf(ShelfError):
    """What was handed in is no shelf, or no word of one."""


class NoLine(ShelfError):
    """What was handed in is no line of shelves."""


class NoPlaces(ShelfError):
    """What was handed in tells no places that are taken there."""


class Marked(ShelfError):
    """A row has marks where none may be."""


class NoCounts(ShelfError):
    """What was handed in is no list of counts that a row can have."""


class NoLetting(ShelfError):
    """What was handed in is no letting of the row."""


class TooMany(ShelfError):
    """There are too many numbers, or too many rows to tell."""


class NoMove(ShelfError):
    """A move names what is no place of the row."""


class NoText(ShelfError):
    """What was handed in is no text of a row or a line."""


class NoNumber(ShelfError):
    """What comes is no whole number, or one that was there."""


class Nothing(ShelfError):
    """There is no call that can be taken back."""
