"""Towers: texts kept in parts, so that few of them are looked at anew behind a change."""

from offside.base.checks import check_book, check_text
from offside.base.past import Block, Past
from offside.base.texts import MAX_LINES
from offside.base.words import check_number, is_integer, is_line
from offside.effect.pauses import Effect
from offside.errors import InvalidNumber, InvalidText, NothingToUndo, TooMany
from offside.read.reading import Reading
from offside.read.walk import Rules
from offside.tower.stack import Stack, news_between

MAX_STEPS = 200


def ending_told(breaks_at, many):
    """How a text of so many lines comes to its end."""
    if breaks_at is None:
        return "read"
    return "broken at the end" if breaks_at == many else f"broken at {breaks_at}"


class Tower:
    """A text that is kept in parts, with what they do, and the changes that have led to it."""

    def __init__(self, book, text):
        check_book(book)
        check_text(text)
        self._book = book
        self._now = Stack(Rules(book), [], (), 0).with_lines(0, 0, text.lines)
        self._past = Past((), ())

    @property
    def book(self):
        """The book."""
        return self._book

    @property
    def text(self):
        """The text of now."""
        return self._now.whole

    @property
    def log(self):
        """The words of the changes in effect."""
        return tuple([word for word, _ in self._past.done])

    def signs_of(self, index):
        """The signs of a line, or None if this line or one ahead of it is broken."""
        check_number(index, 0, len(self) - 1)
        return self._now.signs_at(index)

    def state_ahead(self, index):
        """The state ahead of a line, or behind the lines; None if this line or one ahead is broken."""
        check_number(index, 0, len(self))
        return self._now.state_at(index)

    def reading(self):
        """The reading of the text."""
        return Reading(self._book, self._now.whole)

    def effect(self, start, stop):
        """The effect of the lines from `start` to ahead of `stop`."""
        self._check_bounds(start, stop)
        return Effect(self._book, self._now.whole.part(start, stop))

    def insert(self, index, text):
        """Puts lines ahead of a line, or at the end; returns the news."""
        check_number(index, 0, len(self))
        check_text(text)
        return self._exchange("insert", index, index, text.lines)

    def delete(self, start, stop):
        """Takes lines away; returns the news."""
        self._check_bounds(start, stop)
        return self._exchange("delete", start, stop, ())

    def move(self, start, stop, *, shift):
        """Adds an integer to the columns of lines; returns the news."""
        self._check_bounds(start, stop)
        if not is_integer(shift):
            raise InvalidNumber(shift)
        lines = self._now.whole.lines[start:stop]
        return self._exchange("move", start, stop, tuple([(column + shift, words) for column, words in lines]))

    def change(self, index, line):
        """Exchanges a line; returns the news."""
        check_number(index, 0, len(self) - 1)
        if not is_line(line):
            raise InvalidText("only a line stands in the place of one")
        return self._exchange("change", index, index + 1, (line,))

    def undo(self):
        """Takes the last change back; returns its news."""
        if not self._past.done:
            raise NothingToUndo(0)
        return self._turn(self._past.back(self._now, 1))

    def redo(self):
        """Does the change again that was taken back last; returns its news."""
        if not self._past.undone:
            raise NothingToUndo(0)
        return self._turn(self._past.again(self._now, 1))

    def block(self):
        """What gives the tower in a `with`, behind which all is as ahead of it."""
        return Block(self)

    def _check_bounds(self, start, stop):
        """Raises InvalidNumber unless lines stand between these numbers, or none."""
        check_number(start, 0, len(self))
        check_number(stop, start, len(self))

    def _exchange(self, word, start, stop, lines):
        """Puts lines in the place of others; returns the news."""
        if len(self) - (stop - start) + len(lines) > MAX_LINES:
            raise InvalidText("a text has at most sixty lines")
        if not all([is_line(line) for line in lines]):
            raise InvalidText("a column leaves its bounds")
        if len(self._past.done) == MAX_STEPS:
            raise TooMany(MAX_STEPS)
        stack = self._now.with_lines(start, stop, lines)
        return self._turn((stack, self._past.with_change(word, self._now)))

    def _turn(self, place):
        """Goes to another stand and its past; returns the news."""
        old = self._now
        self._now, self._past = place
        return news_between(old, self._now)

    def __getitem__(self, at):
        check_number(at, 0, len(self) - 1)
        return self._now.whole.lines[at]

    def __len__(self):
        return len(self._now.tags)

    def __iter__(self):
        raise TypeError("a tower is not iterated over")

    def __eq__(self, other):
        return isinstance(other, Tower) and self._book == other._book and self._now.whole == other._now.whole

    def __str__(self):
        many = len(self._now.tags)
        return f"tower of {many} lines, {ending_told(self._now.breaks_at, many)}"
