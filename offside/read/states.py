"""States between lines: which there are, and which of them are alike."""

from offside.base.checks import check_book
from offside.base.texts import Text
from offside.base.words import check_number, is_column, is_integer, is_word
from offside.errors import InvalidOperation, InvalidState
from offside.read.apart import class_told, lines_apart, lines_to
from offside.read.walk import BRACKET, GROUND_BLOCK, Rules, can_stand, read_whole

MAX_PILE = 40
# One less than the greatest column, so that a line can be deeper than each block.
MAX_BLOCK_COLUMN = 198
MOST_LISTED = 4


def is_block(book, value):
    """Whether the value is a block of a bracket, or of an opener with a column up to 198."""
    if not isinstance(value, tuple) or len(value) != 2:
        return False
    column, word = value
    if not is_integer(column) or not is_word(word):
        return False
    if book.role(word) == "opener":
        return 0 <= column <= MAX_BLOCK_COLUMN
    return book.role(word) == "bracket" and column == BRACKET


def is_waiting(book, value):
    """Whether the value is an opener of the book, or the empty string."""
    return isinstance(value, str) and (value == "" or value in book.openers)


def stands_on(rules, block, below):
    """Whether a block can stand on this block, or on the ground, in a regular pile."""
    column, word = block
    return word in rules.pairs or can_stand(column, rules.starts[word][0], below[0])


def is_state(book, value):
    """Whether the value is a state with blocks of the book, regular or not."""
    check_book(book)
    if not isinstance(value, tuple) or len(value) != 2:
        return False
    pile, waiting = value
    if not isinstance(pile, tuple) or len(pile) > MAX_PILE or not is_waiting(book, waiting):
        return False
    return all([is_block(book, block) for block in pile])


def is_regular(book, value):
    """Whether the value is a regular state of the book."""
    if not is_state(book, value):
        return False
    rules = Rules(book)
    pile = (GROUND_BLOCK,) + value[0]
    return all([stands_on(rules, pile[at], pile[at - 1]) for at in range(1, len(pile))])


def check_regular(book, *states):
    """Raises InvalidBook, or InvalidState unless these are regular states of the book."""
    for state in states:
        if not is_regular(book, state):
            raise InvalidState("this is no regular state of the book")


def class_of(book, state):
    """The class of a regular state."""
    check_regular(book, state)
    return class_told(Rules(book), state)


def are_alike(book, one, other):
    """Whether each text is read from both states with equal parts and equal faults."""
    check_regular(book, one, other)
    rules = Rules(book)
    return class_told(rules, one) == class_told(rules, other)


def text_to(book, state):
    """A text behind which a regular state comes, with at most one line more than it has blocks."""
    check_regular(book, state)
    lines = lines_to(Rules(book), state)
    return Text(*lines)


def telling(book, one, other):
    """A text whose readings from both states have other parts or another fault, or None."""
    if are_alike(book, one, other):
        return None
    lines = lines_apart(Rules(book), one, other)
    return Text(*lines)


def is_telling(book, one, other, value):
    """Whether the value is a text whose readings from both states have other parts or another fault."""
    check_regular(book, one, other)
    if not isinstance(value, Text):
        return False
    rules = Rules(book)
    return read_whole(rules, value.lines, one) != read_whole(rules, value.lines, other)


def are_block_columns(value):
    """Whether the value is an ascending tuple of columns up to 198."""
    if not isinstance(value, tuple) or not all([is_column(column) for column in value]):
        return False
    if not all([column <= MAX_BLOCK_COLUMN for column in value]):
        return False
    return all([value[at - 1] < value[at] for at in range(1, len(value))])


def blocks_with(rules, columns):
    """All blocks of brackets, and those of openers with these columns, ascending."""
    brackets = [(BRACKET, word) for word in rules.pairs]
    return brackets + [(column, word) for column in columns for word in rules.starts]


def piles_on(rules, blocks, pile, many):
    """A generator: the pile with so many of the blocks on it in all regular ways, ascending."""
    if many == 0:
        yield pile
        return
    below = pile[-1] if pile else GROUND_BLOCK
    left = many - 1
    for block in blocks:
        if stands_on(rules, block, below):
            higher = pile + (block,)
            yield from piles_on(rules, blocks, higher, left)


def states_upto(book, columns, most):
    """A generator: all regular states with these columns and at most so many blocks, ascending."""
    check_book(book)
    if not are_block_columns(columns):
        raise InvalidOperation("columns are an ascending tuple of columns up to 198")
    check_number(most, 0, MOST_LISTED)
    rules = Rules(book)
    blocks = blocks_with(rules, columns)
    openers = [""] + list(rules.starts)
    start = ()
    for many in range(most + 1):
        for pile in piles_on(rules, blocks, start, many):
            for opener in openers:
                yield (pile, opener)
