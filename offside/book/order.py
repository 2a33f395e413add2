"""The order of books: which read all that others read, and texts that part them."""

from offside.base.books import DEPTHS, JOINTS, NEEDS, Book
from offside.base.checks import check_book
from offside.base.texts import Text
from offside.demand.rows import is_sign_rows
from offside.errors import InvalidOperation, InvalidRow, TooMany
from offside.read.walk import Rules, read_whole

MAX_VARIANTS = 256
START = ((), "")
# One of them is plain in two books at once, which have at most 22 words.
LETTERS = "abcdefghijklmnopqrstuvw"


def check_books(one, other):
    """Raises InvalidBook unless both are books."""
    check_book(one)
    check_book(other)


def does_open_all(pair, other_pair):
    """Whether an opener with this depth and need reads all that one with the other pair reads."""
    depth, need = pair
    other_depth, other_need = other_pair
    if need != other_need and need == "filled":
        return False
    return depth == other_depth or (depth == "level" and other_need == "filled")


def do_rules_extend(rules, other):
    """Whether the rules of a book read all that other ones read, with the same rows."""
    if rules.ends != other.ends or rules.pairs != other.pairs or list(rules.starts) != list(other.starts):
        return False
    if not all([does_open_all(rules.starts[word], other.starts[word]) for word in rules.starts]):
        return False
    # Without openers no line ends a block by its column.
    has_gap = len(rules.starts) > 0
    return (rules.joins_deep or not other.joins_deep) and (rules.joins_gap or not other.joins_gap or not has_gap)


def does_extend(one, other):
    """Whether the first book reads each text that the second one reads, with the same row."""
    check_books(one, other)
    return do_rules_extend(Rules(one), Rules(other))


def do_agree(one, other):
    """Whether two books read the same texts with the same rows."""
    return does_extend(one, other) and does_extend(other, one)


def row_read(rules, lines):
    """The row of a text, or None if it is broken."""
    parts, fault = read_whole(rules, lines, START)
    return parts if fault is None else None


def does_part(rules, other, lines):
    """Whether the other rules read lines, and these do not read them with the same row."""
    row = row_read(other, lines)
    return row is not None and row_read(rules, lines) != row


def candidates(one, other):
    """Lists of the lines of texts, of which the first one that parts two books is as short as can be.

    What a single line tells apart, one or two words tell: the role of a word, an empty block, a bracket
    and its closer, or a line that joins. Two lines are needed for blocks that have to be filled, for
    depths, and for lines within brackets; an ender needs a word ahead of it besides. Only the rule gap
    needs three lines. With lesser columns than these no line would stand in a block.
    """
    words = list(other.words) + [word for word in one.words if word not in other]
    plain = [f"x{letter}" for letter in LETTERS if f"x{letter}" not in words][0]
    words.append(plain)
    openers = other.openers
    enders = other.enders
    found = [((column, (word,)),) for column in (0, 1) for word in words]
    found.extend([((0, (first, last)),) for first in words for last in words])
    found.extend([((0, (first,)), (column, (last,))) for column in (0, 1) for first in words for last in words])
    found.extend([((0, (enders[word],)), (column, (plain, word))) for column in (0, 1) for word in enders])
    found.extend([((0, (word,)), (2, (plain,)), (1, (plain,))) for word in openers])
    return found


def parting_text(one, other):
    """A shortest text that the second book reads and the first one does not read with this row, or None."""
    if does_extend(one, other):
        return None
    rules = Rules(one)
    other_rules = Rules(other)
    for lines in candidates(one, other):
        if does_part(rules, other_rules, lines):
            return Text(*lines)
    return None


def is_parting(one, other, value):
    """Whether the value is a text that the second book reads, and the first one not with the same row."""
    check_books(one, other)
    return isinstance(value, Text) and does_part(Rules(one), Rules(other), value.lines)


def variants(book):
    """All books with the same words, roles and partners, in the order of their texts."""
    check_book(book)
    kinds = [(depth, need) for depth in DEPTHS for need in NEEDS]
    tables = [{}]
    for word in book.openers:
        tables = [{**table, word: kind} for table in tables for kind in kinds]
    joints = [(deep, gap) for deep in JOINTS for gap in JOINTS]
    if len(tables) * len(joints) > MAX_VARIANTS:
        raise TooMany(MAX_VARIANTS)
    enders = book.enders
    brackets = book.brackets
    found = [Book(table, enders, brackets, deep=deep, gap=gap) for table in tables for deep, gap in joints]
    return tuple(sorted(found, key=lambda variant: variant.text))


def is_told(value):
    """Whether the value is a pair of a text and of a row for it, or None."""
    if not isinstance(value, tuple) or len(value) != 2 or not isinstance(value[0], Text):
        return False
    return value[1] is None or (is_sign_rows(value[1]) and len(value[1]) == len(value[0]) + 1)


def reads_so(rules, readings):
    """Whether each text is read as told."""
    for text, row in readings:
        if row_read(rules, text.lines) != row:
            return False
    return True


def reading_so(book, readings):
    """Those of the variants of a book that read each text as told: with this row, or not, for None."""
    check_book(book)
    if not isinstance(readings, tuple) or not all([is_told(reading) for reading in readings]):
        raise InvalidRow("readings are pairs of a text and of its row or None")
    return tuple([variant for variant in variants(book) if reads_so(Rules(variant), readings)])


def all_rules(books):
    """The rules of some books."""
    if not isinstance(books, tuple) or not all([isinstance(book, Book) for book in books]):
        raise InvalidOperation("books are a tuple of books")
    return [Rules(book) for book in books]


def is_beyond(rules, other):
    """Whether rules extend other ones, and are not alike."""
    return do_rules_extend(rules, other) and not do_rules_extend(other, rules)


def least_books(books):
    """Those of some books that extend no other one that is not alike."""
    every = all_rules(books)
    return tuple([book for book, rules in zip(books, every) if not any([is_beyond(rules, other) for other in every])])


def greatest_books(books):
    """Those of some books that no other one extends that is not alike."""
    every = all_rules(books)
    return tuple([book for book, rules in zip(books, every) if not any([is_beyond(other, rules) for other in every])])
