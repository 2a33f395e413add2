"""What a stretch of lines does: where it asks for blocks, and what it makes of them."""

from offside.base.checks import check_book, check_text, is_same
from offside.effect.reach import Reach
from offside.effect.stretch import BROKEN, DONE, begin, go_on, pass_through
from offside.errors import InvalidOperation, InvalidState
from offside.read.states import MAX_PILE, is_block, is_state, is_waiting
from offside.read.walk import GROUND_BLOCK, Rules


class Effect:
    """What a stretch does under a book. It never changes."""

    def __init__(self, book, text):
        check_book(book)
        check_text(text)
        self._book = book
        self._text = text
        self._rules = Rules(book)
        self._lines = text.lines
        self._pauses = Reach(self._rules, self._lines).pauses_within(MAX_PILE)

    @property
    def book(self):
        """The book."""
        return self._book

    @property
    def text(self):
        """The text of the stretch."""
        return self._text

    @property
    def pauses(self):
        """The ascending tuple of the pauses to which some states lead."""
        return self._pauses

    def start(self, waiting):
        """The signs and the outcome from the beginning with this waiting opener, or none."""
        if not is_waiting(self._book, waiting):
            raise InvalidState("what waits is an opener of the book, or nothing")
        return begin(self._rules, self._lines, waiting)

    def step(self, pause, block):
        """The signs and the outcome from a pause with this block as the top."""
        if pause not in self._pauses or not is_same(pause, self._pauses[self._pauses.index(pause)]):
            raise InvalidState("no state leads to such a pause")
        if not is_block(self._book, block) and not is_same(block, GROUND_BLOCK):
            raise InvalidState("only blocks of the book and the ground are asked for")
        return go_on(self._rules, self._lines, pause, block)

    def at(self, state):
        """The signs from a state and the state behind, or None if the stretch breaks."""
        signs, outcome, left, _ = self._pass_from(state)
        if outcome[0] != DONE:
            return None
        # The ground is the lowest of these, whether it was asked for or not.
        pile = left + outcome[1]
        return signs, (pile[1:], outcome[2])

    def fault_at(self, state):
        """The line and the reason where the stretch breaks from a state, or None."""
        outcome = self._pass_from(state)[1]
        return outcome[1:] if outcome[0] == BROKEN else None

    def asked_at(self, state):
        """How many blocks the stretch asks for from a state, the ground included."""
        return self._pass_from(state)[3]

    def _pass_from(self, state):
        """What the stretch gives from a state, regular or not."""
        if not is_state(self._book, state):
            raise InvalidState("this is no state of the book")
        return pass_through(self._rules, self._lines, state)

    def followed_by(self, other):
        """The effect of the lines of both."""
        if not isinstance(other, Effect) or other._book != self._book:
            raise InvalidOperation("only an effect under an equal book can follow")
        return Effect(self._book, self._text + other._text)

    def moved(self, by):
        """The effect of the text with all columns greater by this."""
        return Effect(self._book, self._text.moved(by))

    def __len__(self):
        return len(self._lines)

    def __eq__(self, other):
        return isinstance(other, Effect) and self._book == other._book and self._text == other._text

    def __str__(self):
        return f"{len(self._lines)} lines, {len(self._pauses)} pauses"
