"""Texts: lines with their columns, and their written form."""

from offside.base.words import check_number, is_column, is_integer, is_line, is_words_of_line
from offside.errors import InvalidNumber, InvalidOperation, InvalidText, ParseError, TooMany

MAX_LINES = 60


def written_line(line):
    """The written form of a line."""
    column, words = line
    blanks = " " * column
    told = " ".join(words)
    return f"{blanks}{told}"


def line_written(row):
    """The line with this written form, or None if there is none."""
    bare = row.lstrip(" ")
    line = (len(row) - len(bare), tuple(bare.split(" ")))
    return line if is_line(line) else None


def rows_of(string):
    """The rows of a written form; the one of the text without lines has none."""
    return string.split("\n") if string else []


def are_columns(value, many):
    """Whether the value is a tuple of so many columns."""
    if not isinstance(value, tuple) or len(value) != many:
        return False
    return all([is_column(column) for column in value])


def are_words(value):
    """Whether the value is a tuple of at most sixty tuples of the words of a line."""
    if not isinstance(value, tuple) or len(value) > MAX_LINES:
        return False
    return all([is_words_of_line(words) for words in value])


class Text:
    """Some lines. A text never changes."""

    def __init__(self, *lines):
        if not all([is_line(line) for line in lines]):
            raise InvalidText("a text is made of lines")
        if len(lines) > MAX_LINES:
            raise TooMany(MAX_LINES)
        self._lines = lines
        self._columns = tuple([line[0] for line in lines])
        self._words = tuple([line[1] for line in lines])

    @classmethod
    def read(cls, string):
        """The text with this written form."""
        if not isinstance(string, str):
            raise ParseError(None)
        lines = []
        for row in rows_of(string):
            line = line_written(row)
            if line is None:
                raise ParseError(len(lines))
            lines.append(line)
        return Text(*lines)

    @classmethod
    def made(cls, columns, words):
        """The text with these columns and these words of its lines."""
        if not are_words(words) or not are_columns(columns, len(words)):
            raise InvalidText("a text has a column and words for each line")
        lines = list(zip(columns, words))
        return Text(*lines)

    @property
    def lines(self):
        """The tuple of the lines."""
        return self._lines

    @property
    def columns(self):
        """The tuple of the columns of the lines."""
        return self._columns

    @property
    def words(self):
        """The tuple of the tuples of words of the lines."""
        return self._words

    @property
    def least(self):
        """The least column, or None without lines."""
        return min(self._columns, default=None)

    @property
    def greatest(self):
        """The greatest column, or None without lines."""
        return max(self._columns, default=None)

    def moved(self, by):
        """The text with all columns greater by this."""
        if not is_integer(by):
            raise InvalidNumber(by)
        columns = tuple([column + by for column in self._columns])
        if not are_columns(columns, len(columns)):
            raise InvalidNumber(by)
        return self.at(columns)

    def at(self, columns):
        """The text with other columns."""
        return Text.made(columns, self._words)

    def part(self, first, last):
        """The lines from the first one to ahead of the last one."""
        self._check_bounds(first, last)
        lines = self._lines[first:last]
        return Text(*lines)

    def without(self, first, last):
        """The lines that the part with these bounds leaves."""
        return self.with_part(first, last, Text())

    def with_part(self, first, last, other):
        """The text with another one in the place of a part."""
        self._check_bounds(first, last)
        if not isinstance(other, Text):
            raise InvalidOperation("only a text stands in the place of a part")
        lines = self._lines[:first] + other._lines + self._lines[last:]
        return Text(*lines)

    def _check_bounds(self, first, last):
        """Raises InvalidNumber unless these are the bounds of a part."""
        check_number(first, 0, len(self._lines))
        check_number(last, first, len(self._lines))

    def __add__(self, other):
        if not isinstance(other, Text):
            raise InvalidOperation("only texts are put together with texts")
        lines = self._lines + other._lines
        return Text(*lines)

    def __radd__(self, other):
        # Python asks the right operand only where the left one is no text.
        raise InvalidOperation("only texts are put together with texts")

    def __contains__(self, x):
        # True is 1 for Python, but a column is never True.
        return is_line(x) and x in self._lines

    def __getitem__(self, at):
        check_number(at, 0, len(self._lines) - 1)
        return self._lines[at]

    def __len__(self):
        return len(self._lines)

    def __iter__(self):
        return iter(self._lines)

    def __eq__(self, other):
        return isinstance(other, Text) and self._lines == other._lines

    def __str__(self):
        return "\n".join([written_line(line) for line in self._lines])
