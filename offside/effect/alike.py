"""Stretches that do the same in all texts, and what shows whether they do."""

from offside.base.checks import check_book, check_text, is_same
from offside.base.texts import MAX_LINES, Text
from offside.effect.around import are_unlike_between, texts_around
from offside.effect.links import Links
from offside.errors import InvalidText, TooMany
from offside.read.walk import Rules

# So that the blocks of the pile can be deeper than all lines of a stretch.
MAX_STRETCH_COLUMN = 99


def check_stretch(text):
    """Raises InvalidText unless the value is a text without columns above 99."""
    check_text(text)
    if len(text) and text.greatest > MAX_STRETCH_COLUMN:
        raise InvalidText("stretches that are compared have columns up to 99")


def explored(book, one, other):
    """The links of two stretches, all of them unless something is unlike."""
    check_book(book)
    check_stretch(one)
    check_stretch(other)
    links = Links(Rules(book), one.lines, other.lines)
    links.explore()
    return links


def is_alike(book, one, other):
    """Whether two texts do the same as stretches in all texts."""
    return explored(book, one, other).least_told is None


def alike_paper(book, one, other):
    """What shows that two stretches are alike: all links; or that they are not: texts around them."""
    links = explored(book, one, other)
    if links.least_told is None:
        return ("alike", links.ascending())
    found = texts_around(links.rules, one.lines, other.lines, links)
    if found is None:
        raise TooMany(MAX_LINES)
    before, after = found
    return ("unlike", Text(*before), Text(*after))


def are_around(book, one, other, value):
    """Whether the value is a pair of texts that tell two stretches apart."""
    if not all([isinstance(text, Text) for text in value]):
        return False
    before, after = value
    if len(before) + max(len(one), len(other)) + len(after) > MAX_LINES:
        return False
    return are_unlike_between(Rules(book), one.lines, other.lines, before.lines, after.lines)


def is_alike_paper(book, one, other, value):
    """Whether the value shows that two stretches are alike, or that they are not."""
    links = explored(book, one, other)
    if not isinstance(value, tuple):
        return False
    if len(value) == 2:
        return links.least_told is None and is_same(value, ("alike", links.ascending()))
    if len(value) != 3 or value[0] != "unlike":
        return False
    return are_around(book, one, other, value[1:])


def least_parting(book, one, other):
    """The least number of blocks told to see something unlike, the ground included, or None."""
    return explored(book, one, other).least_told
