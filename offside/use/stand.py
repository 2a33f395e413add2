"""What a project has at one time, and how that differs from another time."""

from offside.base.words import is_integer
from offside.errors import InvalidNumber
from offside.read.reading import Reading


def is_mark(stand, value):
    """Whether the value is the mark of a line."""
    return is_integer(value) and value in stand.tags


class Stand:
    """A book, a text, the marks of its lines, pins, and how many marks have been given. It never changes."""

    def __init__(self, book, text, tags, pinned, given):
        self.rulebook = book
        self.whole = text
        self.tags = tags
        self.pinned = pinned
        self.given = given
        self.parsed = Reading(book, text)

    def place_of(self, mark):
        """The index of the line with a mark."""
        if not is_mark(self, mark):
            raise InvalidNumber(mark)
        return self.tags.index(mark)

    def signs_at(self, index):
        """The signs of a line, or None if it has no part."""
        return self.parsed.parts[index] if index < len(self.parsed.heads) else None

    def with_text(self, text):
        """The stand with a text of as many lines."""
        return Stand(self.rulebook, text, self.tags, self.pinned, self.given)


def news_between(old, new):
    """The ascending pairs of a mark and what has become of its line."""
    before = {mark: old.signs_at(at) for at, mark in enumerate(old.tags)}
    after = {mark: new.signs_at(at) for at, mark in enumerate(new.tags)}
    found = [(mark, "gone") for mark in before if mark not in after]
    for mark in after:
        if mark not in before:
            found.append((mark, "new"))
        elif before[mark] != after[mark]:
            found.append((mark, "signs"))
    return tuple(sorted(found))
