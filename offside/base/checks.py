"""What several modules ask of their arguments."""

from offside.base.books import Book
from offside.base.texts import Text
from offside.errors import InvalidBook, InvalidText


def is_same(value, other):
    """Whether two values are equal, and True is not taken for 1."""
    if isinstance(value, tuple) and isinstance(other, tuple):
        if len(value) != len(other):
            return False
        return all([is_same(value[at], other[at]) for at in range(len(value))])
    return isinstance(value, bool) == isinstance(other, bool) and value == other


def check_book(book):
    """Raises InvalidBook unless the value is a book."""
    if not isinstance(book, Book):
        raise InvalidBook("this is no book")


def check_text(text):
    """Raises InvalidText unless the value is a text."""
    if not isinstance(text, Text):
        raise InvalidText("this is no text")
