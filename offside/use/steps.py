"""The changes of projects: each gives the stand behind it, whether or not the pins hold there."""

from offside.base.checks import check_book
from offside.base.texts import Text
from offside.base.words import check_number, is_column, is_integer, is_line
from offside.errors import InvalidNumber, InvalidOperation, InvalidText
from offside.use.pins import check_pin
from offside.use.stand import Stand


def check_line(line):
    """Raises InvalidText unless the value is a line."""
    if not is_line(line):
        raise InvalidText("this is no line")


def line_put(stand, at, line):
    """A line is put in ahead of another one, or behind all."""
    check_number(at, 0, len(stand.whole))
    check_line(line)
    given = stand.given + 1
    tags = stand.tags[:at] + (given,) + stand.tags[at:]
    return Stand(stand.rulebook, stand.whole.with_part(at, at, Text(line)), tags, stand.pinned, given)


def line_removed(stand, mark):
    """A line is taken out."""
    at = stand.place_of(mark)
    tags = stand.tags[:at] + stand.tags[at + 1:]
    return Stand(stand.rulebook, stand.whole.without(at, at + 1), tags, stand.pinned, stand.given)


def line_changed(stand, mark, line):
    """Another line is put in the place of one."""
    at = stand.place_of(mark)
    check_line(line)
    return stand.with_text(stand.whole.with_part(at, at + 1, Text(line)))


def lines_moved(stand, first, last, by):
    """An integer is added to the columns of some lines."""
    start = stand.place_of(first)
    end = stand.place_of(last)
    if end < start:
        raise InvalidOperation("the last line stands ahead of the first one")
    if not is_integer(by):
        raise InvalidNumber(by)
    columns = list(stand.whole.columns)
    for at in range(start, end + 1):
        columns[at] = columns[at] + by
        if not is_column(columns[at]):
            raise InvalidNumber(by)
    return stand.with_text(stand.whole.at(tuple(columns)))


def book_used(stand, book):
    """Another book is taken."""
    check_book(book)
    return Stand(book, stand.whole, stand.tags, stand.pinned, stand.given)


def pin_added(stand, pin):
    """A pin is pinned."""
    check_pin(stand, pin)
    if pin in stand.pinned:
        raise InvalidOperation("this is pinned already")
    return Stand(stand.rulebook, stand.whole, stand.tags, stand.pinned + (pin,), stand.given)


def pin_dropped(stand, pin):
    """A pin is taken away."""
    check_pin(stand, pin)
    if pin not in stand.pinned:
        raise InvalidOperation("this is not pinned")
    pinned = tuple([other for other in stand.pinned if other != pin])
    return Stand(stand.rulebook, stand.whole, stand.tags, pinned, stand.given)


STEPS = {
    "put": line_put,
    "remove": line_removed,
    "change": line_changed,
    "move": lines_moved,
    "use": book_used,
    "pin": pin_added,
    "unpin": pin_dropped,
}
# How many arguments each of them takes besides the stand.
AMOUNTS = {"put": 2, "remove": 1, "change": 2, "move": 3, "use": 1, "pin": 1, "unpin": 1}


def is_step(value):
    """Whether the value is a tuple of the name of a change and of as many arguments as it takes."""
    if not isinstance(value, tuple) or not value or not isinstance(value[0], str) or value[0] not in AMOUNTS:
        return False
    return len(value) == 1 + AMOUNTS[value[0]]


def stand_behind(stand, step):
    """The stand behind a change."""
    action = STEPS[step[0]]
    told = step[1:]
    return action(stand, *told)
