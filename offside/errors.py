"""The errors of the package."""


class OffsideError(ValueError):
    """A value that the package refuses."""


class InvalidWord(OffsideError):
    """What should be a word is none."""


class InvalidBook(OffsideError):
    """There is no such book."""


class InvalidText(OffsideError):
    """What should be a text, or a part of one, is none."""


class InvalidState(OffsideError):
    """What should be a state, or a part of one, is none."""


class InvalidRow(OffsideError):
    """What should be a row is none, or not one for so many lines."""


class InvalidDemand(OffsideError):
    """What should be demands are none, or too many."""


class InvalidOperation(OffsideError):
    """The operation cannot be done with these values."""


class ParseError(OffsideError):
    """A string is not the text of a value; `line` is an index or None."""

    def __init__(self, line):
        self.line = line


class UnknownWord(KeyError):
    """The word that was asked for has no such role."""

    def __init__(self, asked):
        self.asked = asked


class Impossible(LookupError):
    """The line with this index cannot have its signs, whatever the columns."""

    def __init__(self, index):
        self.index = index


class NothingToUndo(IndexError):
    """There are not so many changes to take back, or to do again."""

    def __init__(self, amount):
        self.amount = amount


class TooMany(OverflowError):
    """There would be more than this limit."""

    def __init__(self, limit):
        self.limit = limit


class Refused(ArithmeticError):
    """A change would break its cause."""

    def __init__(self, cause):
        self.cause = cause


class NoColumns(ArithmeticError):
    """So many lines have no columns that meet all demands."""

    def __init__(self, total):
        self.total = total


class InvalidNumber(RuntimeError):
    """What should be a number, within its bounds, is none."""

    def __init__(self, number):
        self.number = number


class Broken(RuntimeError):
    """The text is broken at the line with this index."""

    def __init__(self, index):
        self.index = index
