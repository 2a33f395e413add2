"""Texts of rows, columns, systems and states, from which they are read again."""

from offside.base.texts import MAX_LINES, are_columns
from offside.base.words import is_column, is_sign, is_word
from offside.demand.columns import System, check_system
from offside.demand.rows import is_sign_rows
from offside.errors import InvalidRow, InvalidState, InvalidText, ParseError
from offside.read.states import MAX_PILE
from offside.read.walk import BRACKET

MAX_DIGITS = 60
NOTHING = "-"


def integer_written(item):
    """The integer that is written so, or None if there is none."""
    digits = item[1:] if item.startswith("-") else item
    if not digits.isascii() or not digits.isdigit() or len(digits) > MAX_DIGITS:
        return None
    if digits.startswith("0") and item != "0":
        return None
    return int(item)


def lines_written(text):
    """The lines of a text."""
    if not isinstance(text, str):
        raise ParseError(None)
    return text.split("\n")


def are_so_many_columns(value):
    """Whether the value is a tuple of at most sixty columns."""
    return isinstance(value, tuple) and len(value) <= MAX_LINES and are_columns(value, len(value))


def write_row(row):
    """The text of a row."""
    if not is_sign_rows(row):
        raise InvalidRow("a row is a tuple of one to 61 tuples of signs")
    return "\n".join([" ".join(signs) if signs else NOTHING for signs in row])


def read_row(text):
    """The row with this text."""
    row = []
    for line in lines_written(text):
        signs = () if line == NOTHING else tuple(line.split(" "))
        if not all([is_sign(sign) for sign in signs]):
            raise ParseError(len(row))
        row.append(signs)
    if not is_sign_rows(tuple(row)):
        raise InvalidRow("a row has at most 61 lines")
    return tuple(row)


def write_columns(columns):
    """The text of some columns."""
    if not are_so_many_columns(columns):
        raise InvalidText("columns are a tuple of at most sixty")
    return " ".join([str(column) for column in columns]) if columns else NOTHING


def read_columns(text):
    """The columns with this text."""
    if not isinstance(text, str):
        raise ParseError(None)
    columns = () if text == NOTHING else tuple([integer_written(item) for item in text.split(" ")])
    if not are_so_many_columns(columns):
        raise ParseError(None)
    return columns


def write_system(system):
    """The text of a system, with the demands with which it was made."""
    check_system(system)
    lines = [str(system.many)]
    for upper, lower, least in system.demands:
        lines.append(f"{upper} {lower} {least}")
    return "\n".join(lines)


def read_system(text):
    """The system with this text."""
    found = []
    for line in lines_written(text):
        numbers = tuple([integer_written(item) for item in line.split(" ")])
        if None in numbers or len(numbers) != (3 if found else 1):
            raise ParseError(len(found))
        found.append(numbers)
    return System(found[0][0], tuple(found[1:]))


def is_block_written(value):
    """Whether the value is a pair of a column, or of -1, and a word."""
    if not isinstance(value, tuple) or len(value) != 2 or not is_word(value[1]):
        return False
    return is_column(value[0]) or value[0] == BRACKET


def is_state_written(value):
    """Whether the value has the form of a state, under whichever book."""
    if not isinstance(value, tuple) or len(value) != 2:
        return False
    pile, waiting = value
    if not isinstance(pile, tuple) or len(pile) > MAX_PILE or not all([is_block_written(block) for block in pile]):
        return False
    return is_word(waiting) or waiting == ""


def write_state(state):
    """The text of a state."""
    if not is_state_written(state):
        raise InvalidState("a state is a pair of at most forty blocks and a word that waits")
    pile, waiting = state
    items = [f"{column}:{word}" for column, word in pile] + ["|"]
    return " ".join(items + [waiting] if waiting else items)


def block_written(item):
    """The block with this text, or a pair that is none."""
    column, _, word = item.partition(":")
    return integer_written(column), word


def read_state(text):
    """The state with this text."""
    if not isinstance(text, str):
        raise ParseError(None)
    items = text.split(" ")
    if "|" not in items:
        raise ParseError(None)
    at = items.index("|")
    rest = items[at + 1:]
    state = (tuple([block_written(item) for item in items[:at]]), rest[0] if rest else "")
    # What is written tells whether nothing waits, or a word that is empty.
    if len(rest) > 1 or rest == [""] or not is_state_written(state):
        raise ParseError(None)
    return state
