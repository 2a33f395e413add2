"""Projects: a text that is changed line by line, with what has to hold at all times."""

from offside.base.checks import check_book
from offside.base.past import Block, Past
from offside.base.texts import Text
from offside.base.words import is_integer
from offside.errors import InvalidNumber, InvalidOperation, NothingToUndo, Refused, TooMany
from offside.use.pins import check_pin, does_pin_hold, marks_of
from offside.use.stand import Stand, is_mark, news_between
from offside.use.steps import is_step, stand_behind

MAX_PINS = 10
MAX_CHANGES = 200


def check_stand(stand):
    """Raises the error that is due unless all pins of a stand hold."""
    for pin in stand.pinned:
        if not all([is_mark(stand, mark) for mark in marks_of(pin)]):
            raise InvalidOperation("a line of a pin is lacking")
    for pin in stand.pinned:
        if not does_pin_hold(stand, pin):
            raise Refused(pin)


def change_done(now, past, step):
    """The stand and the past behind a change: a tuple of its name and its arguments."""
    stand = stand_behind(now, step)
    if len(stand.pinned) > MAX_PINS:
        raise TooMany(MAX_PINS)
    if len(past.done) == MAX_CHANGES:
        raise TooMany(MAX_CHANGES)
    check_stand(stand)
    return stand, past.with_change(step[0], now)


def check_many(many, changes):
    """Raises the error that is due unless there are so many changes."""
    if not is_integer(many) or many < 0:
        raise InvalidNumber(many)
    if many > len(changes):
        raise NothingToUndo(many)


class Project:
    """A book, a text whose lines have marks, pins, and the changes that have led to them."""

    def __init__(self, book):
        check_book(book)
        self._now = Stand(book, Text(), (), (), 0)
        self._past = Past((), ())

    @property
    def book(self):
        """The book."""
        return self._now.rulebook

    @property
    def text(self):
        """The text."""
        return self._now.whole

    @property
    def marks(self):
        """The marks of the lines."""
        return self._now.tags

    @property
    def pins(self):
        """The pins, in the order in which they were pinned."""
        return self._now.pinned

    @property
    def log(self):
        """The words of the changes in effect."""
        return tuple([word for word, _ in self._past.done])

    def put(self, at, line):
        """Puts a line in, ahead of another one or behind all; returns the news."""
        return self._change(("put", at, line))

    def remove(self, mark):
        """Takes a line out; returns the news."""
        return self._change(("remove", mark))

    def change(self, mark, line):
        """Puts another line in the place of one; returns the news."""
        return self._change(("change", mark, line))

    def move(self, first, last, by):
        """Adds an integer to the columns of some lines; returns the news."""
        return self._change(("move", first, last, by))

    def use(self, book):
        """Takes another book; returns the news."""
        return self._change(("use", book))

    def pin(self, pin):
        """Pins what has to hold from now on; returns the news."""
        return self._change(("pin", pin))

    def unpin(self, pin):
        """Takes a pin away; returns the news."""
        return self._change(("unpin", pin))

    def does_hold(self, pin):
        """Whether a pin holds, pinned or not."""
        check_pin(self._now, pin)
        return does_pin_hold(self._now, pin)

    def reading(self):
        """The reading of the text."""
        return self._now.parsed

    def line_with(self, mark):
        """The line with a mark."""
        return self._now.whole.lines[self._now.place_of(mark)]

    def trial(self, *changes):
        """The news that changes would return, one behind the other; the project stays as it is."""
        if not all([is_step(change) for change in changes]):
            raise InvalidOperation("a change is a tuple of the name of a method and its arguments")
        now = self._now
        past = self._past
        found = []
        for change in changes:
            stand, past = change_done(now, past, change)
            found.append(news_between(now, stand))
            now = stand
        return tuple(found)

    def block(self):
        """What gives the project in a `with`, behind which all is as ahead of it."""
        return Block(self)

    def during(self, call):
        """What a call of the project returns, behind which all is as ahead of it."""
        with self.block() as same:
            return call(same)

    def undo(self, *, many=1):
        """Takes the last changes back; returns the news, as of one change."""
        check_many(many, self._past.done)
        return self._turn(self._past.back(self._now, many))

    def redo(self, *, many=1):
        """Does the changes again that were taken back last; returns the news, as of one change."""
        check_many(many, self._past.undone)
        return self._turn(self._past.again(self._now, many))

    def twin(self):
        """An equal project with equal histories, that changes by itself."""
        found = Project(self._now.rulebook)
        # What never changes can be shared.
        found._now = self._now
        found._past = self._past
        return found

    def _change(self, step):
        """Does a change; returns the news."""
        return self._turn(change_done(self._now, self._past, step))

    def _turn(self, place):
        """Goes to another stand and its past; returns the news."""
        old = self._now
        self._now, self._past = place
        return news_between(old, self._now)

    def __contains__(self, x):
        return is_integer(x) and x in self._now.tags

    def __len__(self):
        return len(self._now.tags)

    def __iter__(self):
        return iter(self._now.tags)

    def __eq__(self, other):
        return (isinstance(other, Project) and self._now.rulebook == other._now.rulebook
                and self._now.whole == other._now.whole and self._now.tags == other._now.tags
                and self._now.pinned == other._now.pinned)

    def __str__(self):
        fault = self._now.parsed.fault
        told = "read" if fault is None else f"broken at {fault[0]}"
        return f"{len(self._now.tags)} lines, {len(self._now.pinned)} pins, {told}"
