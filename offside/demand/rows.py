"""Wanted rows, and the demands that the columns meet which give them."""

from offside.base.checks import check_book
from offside.base.texts import MAX_LINES, are_columns, are_words
from offside.base.words import GROUND, MAX_COLUMN, check_number, is_integer, is_signs
from offside.demand.cases import Cases
from offside.errors import Impossible, InvalidRow, InvalidText
from offside.read.reading import Reading


def is_sign_rows(value):
    """Whether the value is a tuple of one to 61 tuples of signs."""
    if not isinstance(value, tuple) or not 1 <= len(value) <= MAX_LINES + 1:
        return False
    return all([is_signs(signs) for signs in value])


def is_demand(value):
    """Whether the value is a triple of two indices of lines, or -1, and a difference of columns."""
    if not isinstance(value, tuple) or len(value) != 3 or not all([is_integer(item) for item in value]):
        return False
    upper, lower, least = value
    if not GROUND <= upper < MAX_LINES or not GROUND <= lower < MAX_LINES:
        return False
    return -MAX_COLUMN <= least <= MAX_COLUMN


def do_meet(columns, demand):
    """Whether columns meet a demand."""
    upper, lower, least = demand
    above = 0 if upper == GROUND else columns[upper]
    below = 0 if lower == GROUND else columns[lower]
    return above >= below + least


def check_row(book, words, row):
    """Raises the error that is due unless these are a book, words of a text and a row for them."""
    check_book(book)
    if not are_words(words):
        raise InvalidText("words of a text are at most sixty tuples of words")
    if not is_sign_rows(row) or len(row) != len(words) + 1:
        raise InvalidRow("a row has signs for each line, and for the end")


def first_impossible(book, words, row):
    """The index of the first line, or of the end, whose signs are those of no case, or None."""
    check_row(book, words, row)
    cases = Cases(book)
    for index in range(len(words)):
        if cases.follow_line(index, words[index], row[index]) is None:
            return index
    return None if cases.does_end(row[-1]) else len(words)


class Wanted:
    """A wanted row that is possible. It never changes."""

    def __init__(self, book, words, row):
        index = first_impossible(book, words, row)
        if index is not None:
            raise Impossible(index)
        cases = Cases(book)
        groups = []
        piles = [()]
        waiting = [""]
        for at in range(len(words)):
            groups.append(tuple(cases.follow_line(at, words[at], row[at])))
            piles.append(cases.pile_told())
            waiting.append(cases.walk.opener)
        self._book = book
        self._words = words
        self._wanted = row
        self._groups = groups
        self._demands = tuple([demand for group in groups for demand in group])
        self._piles = tuple(piles)
        self._waiting = tuple(waiting)

    @classmethod
    def of(cls, book, text):
        """The row of a text, as it is read."""
        reading = Reading(book, text)
        return Wanted(book, text.words, reading.row())

    @property
    def book(self):
        """The book."""
        return self._book

    @property
    def words(self):
        """The tuple of the tuples of words of the lines."""
        return self._words

    @property
    def wanted(self):
        """The row."""
        return self._wanted

    @property
    def demands(self):
        """The demands, line by line, equal ones several times."""
        return self._demands

    @property
    def piles(self):
        """The piles ahead of each line and behind the last one, told by lines."""
        return self._piles

    @property
    def waiting(self):
        """The openers that wait ahead of each line and behind the last one, or empty strings."""
        return self._waiting

    def demands_of(self, index):
        """The demands of one line."""
        check_number(index, 0, len(self._words) - 1)
        return self._groups[index]

    def is_read_by(self, columns):
        """Whether the text with these columns has the wanted row."""
        return not self.unmet(columns)

    def unmet(self, columns):
        """The ascending tuple of the indices of the demands that are not met."""
        if not are_columns(columns, len(self._words)):
            raise InvalidText("columns are a tuple with one for each line")
        return tuple([at for at in range(len(self._demands)) if not do_meet(columns, self._demands[at])])

    def __len__(self):
        return len(self._words)

    def __eq__(self, other):
        return (isinstance(other, Wanted) and self._book == other._book and self._words == other._words
                and self._wanted == other._wanted)

    def __str__(self):
        return f"{len(self._words)} lines, {len(self._demands)} demands"
