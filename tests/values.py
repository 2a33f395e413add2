"""Books and values that several tests use."""

from offside.base.books import Book
from offside.errors import InvalidBook, UnknownWord

SIXTY = 10 ** 60 - 1
SIXTY_ONE = 10 ** 60


def py_book():
    openers = {"if": ("deeper", "filled"), "def": ("deeper", "filled")}
    return Book(openers, {}, {"lp": "rp"}, deep="breaks", gap="breaks")


def hs_book():
    openers = {"of": ("deeper", "empty"), "let": ("deeper", "empty")}
    return Book(openers, {"in": "let"}, {"lp": "rp"}, deep="joins", gap="joins")


def ya_book():
    return Book({"key": ("level", "empty")}, {}, {}, deep="breaks", gap="breaks")


def nested(kind, deep):
    """A value that is nested so deep: in tuples, in lists, or in dicts."""
    value = "a"
    for _ in range(deep):
        value = {"tuple": (value,), "list": [value], "dict": {"a": value}}[kind]
    return value


def odd_values():
    """Values of many kinds: none of them is a word, a line, a table of a book, or a rule."""
    return [
        None, True, False, 0, 1, -1, 7, 199, 10 ** 99, -10 ** 99,
        "", "A", "Do", "of ", " of", "a b", "a\n", "nineabcde", "a1", "a-b", "x" * 9000, "\n" * 9000,
        (), (1,), ("A",), ("deeper",), ("deeper", "full"), ("Deeper", "filled"), ("deeper", "filled", "filled"),
        (("deeper", "filled"),), (0,), (0, "a"), (0, ["a"]), (0, ()), (None, None),
        [], ["a"], ["deeper", "filled"], ["a", "b"], [[]], [0, ("a",)],
        {"A": "b"}, {1: 2}, {None: None}, {True: "a"}, {("a",): "b"}, {"a": []}, {"a": {}}, {"": ""},
        nested("tuple", 8), nested("list", 8), nested("dict", 8),
        py_book(), Book(), (py_book(),), [py_book()], {"a": py_book()},
        InvalidBook("a"), UnknownWord("a"),
    ]
