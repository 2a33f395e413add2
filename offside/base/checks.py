"""What several modules ask of their arguments."""

from offside.base.books import Book
from offside.base.texts import Text
from offside.errors import InvalidBook, InvalidText


def check_book(book):
    """Raises InvalidBook unless the value is a book."""
    if not isinstance(book, Book):
        raise InvalidBook("this is no book")


def check_text(text):
    """Raises InvalidText unless the value is a text."""
    if not isinstance(text, Text):
        raise InvalidText("this is no text")
