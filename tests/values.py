"""Books, texts and values that several tests use."""

import itertools
import unittest

from offside.base.books import Book
from offside.base.texts import Text
from offside.errors import InvalidBook, UnknownWord

SIXTY = 10 ** 60 - 1
SIXTY_ONE = 10 ** 60
DEEPER = ("deeper", "filled")


def py_book():
    openers = {"if": ("deeper", "filled"), "def": ("deeper", "filled")}
    return Book(openers, {}, {"lp": "rp"}, deep="breaks", gap="breaks")


def hs_book():
    openers = {"of": ("deeper", "empty"), "let": ("deeper", "empty")}
    return Book(openers, {"in": "let"}, {"lp": "rp"}, deep="joins", gap="joins")


def ya_book():
    return Book({"key": ("level", "empty")}, {}, {}, deep="breaks", gap="breaks")


def loop_text():
    return Text((0, ("def",)), (4, ("a", "if")), (8, ("b",)), (4, ("c",)))


def case_text():
    return Text((0, ("x", "of")), (2, ("a", "of")), (6, ("b",)), (3, ("c",)), (2, ("d",)))


def kinds_of_books():
    """Books of all kinds of rules: o has the ender e, p has none, and there are two brackets."""
    books = []
    for depth, need in itertools.product(("deeper", "level"), ("filled", "empty")):
        for deep, gap in itertools.product(("joins", "breaks"), repeat=2):
            openers = {"o": (depth, need), "p": ("deeper", "empty")}
            books.append(Book(openers, {"e": "o"}, {"l": "r", "m": "n"}, deep=deep, gap=gap))
    return books


def random_book(chance):
    """A book of any size."""
    kinds = list(itertools.product(("deeper", "level"), ("filled", "empty")))
    openers = {word: chance.choice(kinds) for word in chance.sample("abcd", chance.randint(0, 4))}
    enders = {}
    if openers:
        enders = {word: chance.choice(sorted(openers)) for word in chance.sample("efg", chance.randint(0, 3))}
    brackets = {word: word + "x" for word in chance.sample("lm", chance.randint(0, 2))}
    return Book(openers, enders, brackets, deep=chance.choice(("joins", "breaks")),
                gap=chance.choice(("joins", "breaks")))


def random_text(chance, book, many, columns):
    """A text of so many lines, with words of the book and plain ones."""
    pool = book.words + ("x", "y")
    lines = []
    for _ in range(many):
        words = tuple(chance.choice(pool) for _ in range(chance.choice((1, 1, 2, 3, 6))))
        lines.append((chance.choice(columns), words))
    return Text(*lines)


def random_state(chance, book, most, columns):
    """A state of at most so many blocks, mostly not a regular one."""
    blocks = [(column, word) for column in columns for word in book.openers]
    blocks += [(-1, word) for word in book.brackets]
    many = chance.randint(0, most) if blocks else 0
    pile = tuple(chance.choice(blocks) for _ in range(many))
    return pile, chance.choice(("",) + tuple(book.openers))


def nested(kind, deep):
    """A value that is nested so deep: in tuples, in lists, or in dicts."""
    value = "a"
    for _ in range(deep):
        value = {"tuple": (value,), "list": [value], "dict": {"a": value}}[kind]
    return value


def odd_values():
    """Values of many kinds: none of them is a word, a line, a table of a book, or a rule."""
    return [
        None, True, False, 0, 1, -1, 7, 199, 10 ** 99, -10 ** 99,
        "", "A", "Do", "of ", " of", "a b", "a\n", "nineabcde", "a1", "a-b", "x" * 9000, "\n" * 9000,
        (), (1,), ("A",), ("deeper",), ("deeper", "full"), ("Deeper", "filled"), ("deeper", "filled", "filled"),
        (("deeper", "filled"),), (0,), (0, "a"), (0, ["a"]), (0, ()), (None, None),
        [], ["a"], ["deeper", "filled"], ["a", "b"], [[]], [0, ("a",)],
        {"A": "b"}, {1: 2}, {None: None}, {True: "a"}, {("a",): "b"}, {"a": []}, {"a": {}}, {"": ""},
        nested("tuple", 8), nested("list", 8), nested("dict", 8),
        py_book(), Book(), (py_book(),), [py_book()], {"a": py_book()},
        InvalidBook("a"), UnknownWord("a"), Text(), Text((0, ("a",))), (Text(),), [Text()],
    ]


def no_integers():
    """Values that are no integers, also such with too many digits."""
    return [value for value in odd_values() if isinstance(value, bool) or not isinstance(value, int)] + [
        SIXTY_ONE, -SIXTY_ONE, 10 ** 99]


def not_of(kind):
    """The odd values that are no objects of a class."""
    return [value for value in odd_values() if not isinstance(value, kind)]


class Refusing(unittest.TestCase):
    """Tests of calls that are refused."""

    def assert_refused(self, error, kept, call, *args, **more):
        """The call raises this very error, which keeps this value of this very kind, or is not asked for one."""
        with self.assertRaises(error, msg=(args, more)) as caught:
            call(*args, **more)
        self.assertIs(type(caught.exception), error, (args, more))
        if kept != "no":
            found = list(vars(caught.exception).values())
            self.assertEqual([found, [type(value) for value in found]], [[kept], [type(kept)]], (args, more))
