"""The errors that the package raises."""


class PartError(ValueError):
    """The base class of all errors of the package."""


class InvalidFraction(PartError):
    """A value is not a fraction."""


class InvalidSum(PartError):
    """A value is not a sum, or has too many parts or too large ones."""


class InvalidNumber(PartError):
    """A value is not an integer in the range that is asked for."""


class NotThere(PartError):
    """A part is not one of the parts of a sum."""


class CannotSplit(PartError):
    """A part cannot be split, since the sum has one of the new parts already."""


class TooGreat(PartError):
    """A part is greater than what is left, or there are too many parts."""


class Used(PartError):
    """A part was cut off already."""


class NothingToUndo(PartError):
    """There is no part that can be put back."""


class ParseError(PartError):
    """A text is not the text of a sum."""
