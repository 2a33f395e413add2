"""Readings: what the lines of a text are by a book, from a regular state on."""

from offside.base.checks import check_book, check_text
from offside.base.texts import Text
from offside.base.words import check_number
from offside.errors import Broken, InvalidOperation, InvalidState
from offside.read.opened import Opened
from offside.read.states import is_regular
from offside.read.walk import Rules, end_from, read_lines

REASONS = ("closer", "deep", "ender", "filled", "gap", "open")


def check_open(is_open):
    """Raises InvalidOperation unless the value is a boolean."""
    if not isinstance(is_open, bool):
        raise InvalidOperation("a reading is open or not: True or False")


def opened_by(rules, text, parts, heads, states):
    """The blocks that the lines have opened, before any end is read."""
    opened = Opened(rules, len(states[0][0]))
    for index in range(len(heads)):
        opened.follow_line(index, parts[index], heads[index], states[index][1])
    return opened


class Reading:
    """What a text is by a book. A reading never changes."""

    def __init__(self, book, text, state=((), ""), *, is_open=False):
        check_book(book)
        check_text(text)
        if not is_regular(book, state):
            raise InvalidState("a text is read from a regular state of the book")
        check_open(is_open)
        self._read_from(book, text, state, is_open)

    def _read_from(self, book, text, state, is_open):
        """Reads the text from a state, which can have more blocks than one that is passed."""
        rules = Rules(book)
        self._book = book
        self._text = text
        self._is_open = is_open
        parts, heads, states, fault = read_lines(rules, text.lines, state)
        opened = opened_by(rules, text, parts, heads, states)
        last = len(parts) - 1
        if fault is None and not is_open:
            reason, signs = end_from(rules, states[-1])
            if reason:
                fault = (len(text), reason)
            else:
                parts.append(signs)
                if states[-1][1]:
                    opened.add_empty(states[-1][1], last)
        self._parts = tuple(parts)
        self._heads = tuple(heads)
        self._states = tuple(states)
        self._fault = fault
        self._blocks = opened.all_found(last)
        self._homes = opened.homes
        self._signs = tuple([sign for part in parts for sign in part])

    @property
    def book(self):
        """The book."""
        return self._book

    @property
    def text(self):
        """The text."""
        return self._text

    @property
    def state(self):
        """The state from which the text is read."""
        return self._states[0]

    @property
    def parts(self):
        """The signs of each line, and behind them those of the end, if it is read."""
        return self._parts

    @property
    def fault(self):
        """The index of the line at which the text is broken and the reason, or None."""
        return self._fault

    @property
    def signs(self):
        """All signs of the parts in one tuple."""
        return self._signs

    @property
    def states(self):
        """The states ahead of the lines of which there are parts, and behind the last of them."""
        return self._states

    @property
    def heads(self):
        """The lengths of the heads of the lines of which there are parts."""
        return self._heads

    @property
    def last_state(self):
        """The last one of the states."""
        return self._states[-1]

    @property
    def blocks(self):
        """The blocks that lines have opened: (opener or bracket, line, first, last)."""
        return self._blocks

    def row(self):
        """The parts, if the end was read and the text is not broken."""
        if self._is_open:
            raise InvalidOperation("a reading that is open has no row")
        self._check_read()
        return self._parts

    def depth(self, index):
        """How many blocks are on the pile behind a line."""
        self._check_line(index)
        return len(self._states[index + 1][0])

    def home(self, index):
        """The place in the blocks of the topmost one behind the head of a line, or None."""
        self._check_line(index)
        return self._homes[index]

    def then(self, text, *, is_open=False):
        """The reading of a text from the state behind an open reading."""
        check_text(text)
        check_open(is_open)
        self._check_read()
        if not self._is_open:
            raise InvalidOperation("behind the end nothing is read")
        found = Reading(self._book, Text(), is_open=is_open)
        found._read_from(self._book, text, self._states[-1], is_open)
        return found

    def _check_read(self):
        """Raises Broken if the text is broken."""
        if self._fault is not None:
            raise Broken(self._fault[0])

    def _check_line(self, index):
        """Raises InvalidNumber unless there is a part of a line with this index."""
        check_number(index, 0, len(self._heads) - 1)

    def __getitem__(self, at):
        check_number(at, 0, len(self._parts) - 1)
        return self._parts[at]

    def __len__(self):
        return len(self._parts)

    def __iter__(self):
        return iter(self._parts)

    def __eq__(self, other):
        return (isinstance(other, Reading) and self._book == other._book and self._text == other._text
                and self._states[0] == other._states[0] and self._is_open == other._is_open)

    def __str__(self):
        if self._fault is not None:
            return f"broken at {self._fault[0]}: {self._fault[1]}"
        return f"{len(self._text)} lines, {len(self._signs)} signs"


def is_row(book, text, value):
    """Whether the value is the row of this text."""
    reading = Reading(book, text)
    return reading.fault is None and reading.parts == value
