"""Integers, words, columns, lines and signs: what is one, and what is not."""

from offside.errors import InvalidNumber

MAX_LETTERS = 8
MAX_COLUMN = 199
MAX_WORDS = 6
GROUND = -1
SIGNS = ("{", "}", ";")


def is_integer(value):
    """Whether the value is an integer of at most sixty digits."""
    # Python counts True and False among the integers, the document does not.
    if not isinstance(value, int) or isinstance(value, bool):
        return False
    return abs(value) < 10 ** 60


def check_number(value, least, greatest):
    """Raises InvalidNumber unless the value is an integer within these bounds."""
    if not is_integer(value) or not least <= value <= greatest:
        raise InvalidNumber(value)


def is_word(value):
    """Whether the value is a string of one to eight letters a to z."""
    if not isinstance(value, str) or len(value) > MAX_LETTERS:
        return False
    # Other alphabets have lower-case letters, too; the empty string is not alpha.
    return value.isascii() and value.isalpha() and value.islower()


def is_column(value):
    """Whether the value is an integer from 0 to 199."""
    return is_integer(value) and 0 <= value <= MAX_COLUMN


def is_words_of_line(value):
    """Whether the value is a tuple of one to six words."""
    if not isinstance(value, tuple) or not 1 <= len(value) <= MAX_WORDS:
        return False
    return all([is_word(word) for word in value])


def is_line(value):
    """Whether the value is a pair of a column and the words of a line."""
    if not isinstance(value, tuple) or len(value) != 2:
        return False
    return is_column(value[0]) and is_words_of_line(value[1])


def is_sign(value):
    """Whether the value is a word or one of the strings that are signs."""
    return is_word(value) or value in SIGNS


def is_signs(value):
    """Whether the value is a tuple of signs, of any length."""
    return isinstance(value, tuple) and all([is_sign(sign) for sign in value])
