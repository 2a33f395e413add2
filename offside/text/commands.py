"""The commands of a shell: what each does with a book, a text and a wanted row.

Each gives the book, the text and the wanted row behind it, and its answer.
"""

from offside.base.texts import Text
from offside.demand.changes import repaired
from offside.demand.columns import System
from offside.demand.rows import Wanted, first_impossible
from offside.errors import InvalidOperation, ParseError
from offside.read.reading import Reading
from offside.text.texts import integer_written, write_columns, write_row

DONE = "ok"
NONE = "none"


def number_of(item):
    """The integer that an item of a command tells."""
    number = integer_written(item)
    if number is None:
        raise ParseError(None)
    return number


def check_wanted(wanted):
    """Raises InvalidOperation unless there is a wanted row."""
    if wanted is None:
        raise InvalidOperation("no row is wanted")


def opener_put(book, text, wanted, items):
    """The book has an opener."""
    return book.with_opener(items[1], items[2], items[3]), text, wanted, DONE


def ender_put(book, text, wanted, items):
    """The book has an ender."""
    return book.with_ender(items[1], items[2]), text, wanted, DONE


def bracket_put(book, text, wanted, items):
    """The book has a bracket and its closer."""
    return book.with_bracket(items[1], items[2]), text, wanted, DONE


def word_dropped(book, text, wanted, items):
    """The book is without a word."""
    return book.without(items[1]), text, wanted, DONE


def deep_set(book, text, wanted, items):
    """The rule deep of the book is this word."""
    return book.joining(deep=items[1]), text, wanted, DONE


def gap_set(book, text, wanted, items):
    """The rule gap of the book is this word."""
    return book.joining(gap=items[1]), text, wanted, DONE


def line_put(book, text, wanted, items):
    """A line is put behind the others."""
    line = (number_of(items[1]), tuple(items[2:]))
    return book, text + Text(line), wanted, DONE


def line_dropped(book, text, wanted, items):
    """The last line is taken out."""
    many = len(text)
    return book, text.without(many - 1, many), wanted, DONE


def book_told(book, text, wanted, items):
    """Tells the text of the book."""
    return book, text, wanted, book.text


def text_told(book, text, wanted, items):
    """Tells the written form of the text."""
    return book, text, wanted, str(text)


def row_told(book, text, wanted, items):
    """Tells the wanted row."""
    check_wanted(wanted)
    return book, text, wanted, write_row(wanted)


def reading_told(book, text, wanted, items):
    """Tells the row of the text, or where it is broken."""
    reading = Reading(book, text)
    if reading.fault is None:
        return book, text, wanted, write_row(reading.parts)
    at, reason = reading.fault
    return book, text, wanted, f"broken {at} {reason}"


def row_wanted(book, text, wanted, items):
    """The wanted row is that of the text."""
    return book, text, Wanted.of(book, text).wanted, DONE


def columns_told(book, text, wanted, items):
    """Tells the narrowest or widest columns with which the text has the wanted row."""
    check_wanted(wanted)
    answer = NONE
    if first_impossible(book, text.words, wanted) is None:
        system = System.wanting(Wanted(book, text.words, wanted))
        if system.is_possible:
            answer = write_columns(system.narrowest if items[0] == "narrow" else system.widest)
    return book, text, wanted, answer


def forced_told(book, text, wanted, items):
    """Tells what is forced between two lines."""
    upper = number_of(items[1])
    lower = number_of(items[2])
    check_wanted(wanted)
    system = System.wanting(Wanted(book, text.words, wanted))
    return book, text, wanted, str(system.forced(upper, lower))


def text_fixed(book, text, wanted, items):
    """The text has the columns of a least change with which it has the wanted row."""
    check_wanted(wanted)
    found = repaired(book, text, wanted)
    if found is None:
        return book, text, wanted, NONE
    return book, found, wanted, DONE


COMMANDS = {
    "opener": opener_put,
    "ender": ender_put,
    "bracket": bracket_put,
    "without": word_dropped,
    "deep": deep_set,
    "gap": gap_set,
    "line": line_put,
    "drop": line_dropped,
    "book": book_told,
    "text": text_told,
    "row": row_told,
    "read": reading_told,
    "want": row_wanted,
    "narrow": columns_told,
    "wide": columns_told,
    "forced": forced_told,
    "fix": text_fixed,
}
# How many items each of them has, its word included; only a line can have more.
LENGTHS = {
    "opener": 4,
    "ender": 3,
    "bracket": 3,
    "without": 2,
    "deep": 2,
    "gap": 2,
    "line": 3,
    "drop": 1,
    "book": 1,
    "text": 1,
    "row": 1,
    "read": 1,
    "want": 1,
    "narrow": 1,
    "wide": 1,
    "forced": 3,
    "fix": 1,
}


def command_done(book, text, wanted, command):
    """Does a command; raises ParseError if it is none."""
    items = command.split(" ")
    word = items[0]
    if "" in items or word not in COMMANDS:
        raise ParseError(None)
    if len(items) != LENGTHS[word] and not (word == "line" and len(items) > LENGTHS[word]):
        raise ParseError(None)
    action = COMMANDS[word]
    return action(book, text, wanted, items)
