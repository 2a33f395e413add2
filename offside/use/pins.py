"""Pins: what can have to hold for a project, and whether it does."""

from offside.base.words import is_integer, is_signs
from offside.errors import InvalidOperation
from offside.read.opened import Opened
from offside.read.walk import Rules
from offside.use.stand import is_mark

# How many items the pins of each kind have, and how many of them are marks.
SIZES = {"read": (1, 0), "signs": (3, 1), "inside": (3, 2), "over": (4, 2)}


def marks_of(pin):
    """The marks that a pin names."""
    return pin[1:1 + SIZES[pin[0]][1]]


def has_form(value):
    """Whether the value has the form of a pin, whatever its marks are."""
    if not isinstance(value, tuple) or not value or not isinstance(value[0], str) or value[0] not in SIZES:
        return False
    if len(value) != SIZES[value[0]][0]:
        return False
    if value[0] == "signs":
        return is_signs(value[2])
    return value[0] != "over" or is_integer(value[3])


def is_pin(stand, value):
    """Whether the value is a pin, with marks of lines of the project."""
    return has_form(value) and all([is_mark(stand, mark) for mark in marks_of(value)])


def check_pin(stand, pin):
    """Raises InvalidOperation unless the value is a pin."""
    if not is_pin(stand, pin):
        raise InvalidOperation("this is no pin of the project")


def lines_open_behind(stand, index):
    """The lines that have opened the blocks which are on the pile behind a line that has a part."""
    reading = stand.parsed
    opened = Opened(Rules(stand.rulebook), 0)
    for at in range(index + 1):
        opened.follow_line(at, reading.parts[at], reading.heads[at], reading.states[at][1])
    return [opened.found[place][1] for place in opened.pile]


def does_pin_hold(stand, pin):
    """Whether a pin holds."""
    if pin[0] == "read":
        return stand.parsed.fault is None
    index = stand.place_of(pin[1])
    if pin[0] == "signs":
        return stand.signs_at(index) == pin[2]
    other = stand.place_of(pin[2])
    if pin[0] == "inside":
        return stand.signs_at(index) is not None and other in lines_open_behind(stand, index)
    columns = stand.whole.columns
    return columns[index] >= columns[other] + pin[3]
