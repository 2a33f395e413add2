"""How texts are read, rule by rule: [0.7] to [0.13]."""

import itertools
import random
import unittest

from offside.base.books import Book
from offside.base.texts import Text
from offside.read.reading import Reading
from tests import naive
from tests.values import case_text, hs_book, kinds_of_books, loop_text, py_book, random_book, random_text, ya_book

EMPTY = ((), "")


def book_with(depth, need, deep="breaks", gap="breaks"):
    """A book in which o has this depth and need, and the ender e, and p has none."""
    return Book({"o": (depth, need), "p": ("deeper", "empty")}, {"e": "o"}, {"l": "r", "m": "n"}, deep=deep, gap=gap)


def parts_from(book, state, *lines):
    """The parts of lines that are read from a state, and the fault."""
    reading = Reading(book, Text(*lines), state, is_open=True)
    return reading.parts, reading.fault


class TestFirstRule(unittest.TestCase):
    """A line whose first word is an ender or a closer."""

    def test_the_column_has_no_effect(self):
        book = book_with("deeper", "filled")
        for column in (0, 1, 3, 4, 5, 199):
            self.assertEqual(parts_from(book, (((4, "o"),), ""), (column, ("e", "x"))), ((("}", "e", "x"),), None))
            state = (((4, "o"), (-1, "l"), (2, "p")), "")
            self.assertEqual(parts_from(book, state, (column, ("r",))), ((("}", "r"),), None))

    def test_an_opener_that_waits(self):
        for depth, column in itertools.product(("deeper", "level"), (0, 3, 9)):
            state = (((3, "o"), (-1, "l")), "o")
            self.assertEqual(parts_from(book_with(depth, "empty"), state, (column, ("r",))),
                             ((("{", "}", "r"),), None))
            self.assertEqual(parts_from(book_with(depth, "filled"), state, (column, ("r",))), ((), (0, "filled")))
            state = (((3, "o"),), "o")
            self.assertEqual(parts_from(book_with(depth, "empty"), state, (column, ("e",))),
                             ((("{", "}", "}", "e"),), None))
            self.assertEqual(parts_from(book_with(depth, "filled"), state, (column, ("e",))), ((), (0, "filled")))

    def test_filled_comes_before_the_word(self):
        for word in ("e", "r"):
            self.assertEqual(parts_from(book_with("deeper", "filled"), ((), "o"), (0, (word,))), ((), (0, "filled")))
        self.assertEqual(parts_from(book_with("deeper", "empty"), ((), "o"), (0, ("e",))), ((), (0, "ender")))
        self.assertEqual(parts_from(book_with("deeper", "empty"), ((), "o"), (0, ("r",))), ((), (0, "closer")))


class TestSecondRule(unittest.TestCase):
    """A line behind an opener that waits."""

    def test_deeper_lines(self):
        for depth, need in itertools.product(("deeper", "level"), ("filled", "empty")):
            for pile, column in (((), 1), (((3, "o"),), 4), (((3, "o"),), 199), (((3, "o"), (-1, "l")), 0)):
                reading = Reading(book_with(depth, need), Text((column, ("x",))), (pile, "o"), is_open=True)
                self.assertEqual(reading.parts, (("{", "x"),))
                self.assertEqual(reading.last_state, (pile + ((column, "o"),), ""))

    def test_lines_with_the_column_of_the_top(self):
        for pile, column in (((), 0), (((3, "o"),), 3)):
            for need in ("filled", "empty"):
                reading = Reading(book_with("level", need), Text((column, ("x",))), (pile, "o"), is_open=True)
                self.assertEqual([reading.parts, reading.last_state],
                                 [(("{", "x"),), (pile + ((column, "o"),), "")])
            state = (pile, "o")
            self.assertEqual(parts_from(book_with("deeper", "filled"), state, (column, ("x",))), ((), (0, "filled")))
            self.assertEqual(parts_from(book_with("deeper", "empty"), state, (column, ("x",))),
                             ((("{", "}", ";", "x"),), None))

    def test_lines_that_are_less_deep(self):
        state = (((2, "p"), (4, "o")), "o")
        for depth in ("deeper", "level"):
            book = book_with(depth, "empty", gap="joins")
            self.assertEqual(parts_from(book, state, (2, ("x",))), ((("{", "}", "}", ";", "x"),), None))
            self.assertEqual(parts_from(book, state, (3, ("x",))), ((("{", "}", "}", "x"),), None))
            self.assertEqual(parts_from(book, state, (0, ("x",))), ((("{", "}", "}", "}", ";", "x"),), None))
            self.assertEqual(parts_from(book_with(depth, "empty"), state, (3, ("x",))), ((), (0, "gap")))
            self.assertEqual(parts_from(book_with(depth, "filled"), state, (2, ("x",))), ((), (0, "filled")))

    def test_an_opener_as_the_only_word(self):
        book = book_with("deeper", "empty")
        reading = Reading(book, Text((0, ("o",)), (1, ("o",)), (2, ("p",))), is_open=True)
        self.assertEqual([reading.parts, reading.last_state],
                         [((";", "o"), ("{", "o"), ("{", "p")), (((1, "o"), (2, "o")), "p")])


class TestThirdRule(unittest.TestCase):
    """Other lines, which are compared with the blocks."""

    STATE = (((2, "p"), (4, "o"), (6, "p")), "")

    def test_semicolons(self):
        for deep, gap in itertools.product(("joins", "breaks"), repeat=2):
            book = book_with("deeper", "filled", deep, gap)
            for column, ends in ((6, 0), (4, 1), (2, 2), (0, 3)):
                found = parts_from(book, self.STATE, (column, ("x",)))
                self.assertEqual(found, ((("}",) * ends + (";", "x"),), None))

    def test_deeper_than_the_top(self):
        for gap in ("joins", "breaks"):
            joins, breaks = (book_with("deeper", "filled", deep, gap) for deep in ("joins", "breaks"))
            for column in (7, 199):
                self.assertEqual(parts_from(joins, self.STATE, (column, ("x",))), ((("x",),), None))
                self.assertEqual(parts_from(breaks, self.STATE, (column, ("x",))), ((), (0, "deep")))
            self.assertEqual(parts_from(joins, EMPTY, (1, ("x",))), ((("x",),), None))
            self.assertEqual(parts_from(breaks, EMPTY, (1, ("x",))), ((), (0, "deep")))

    def test_between_two_blocks(self):
        for deep in ("joins", "breaks"):
            joins, breaks = (book_with("deeper", "filled", deep, gap) for gap in ("joins", "breaks"))
            for column, ends in ((5, 1), (3, 2), (1, 3)):
                self.assertEqual(parts_from(joins, self.STATE, (column, ("x",))), ((("}",) * ends + ("x",),), None))
                self.assertEqual(parts_from(breaks, self.STATE, (column, ("x",))), ((), (0, "gap")))

    def test_on_a_bracket(self):
        state = (((2, "p"), (-1, "l"), (3, "o"), (5, "p")), "")
        for deep, gap in itertools.product(("joins", "breaks"), repeat=2):
            book = book_with("deeper", "filled", deep, gap)
            for column in (0, 1, 2):
                self.assertEqual(parts_from(book, state, (column, ("x",))), ((("}", "}", "x"),), None))
            for column in (0, 2, 9):
                self.assertEqual(parts_from(book, (state[0][:2], ""), (column, ("x",))), ((("x",),), None))
            self.assertEqual(parts_from(book, state, (3, ("x",))), ((("}", ";", "x"),), None))

    def test_blocks_with_equal_columns(self):
        state = (((0, "o"), (0, "o"), (1, "o"), (1, "o")), "")
        book = book_with("level", "empty")
        self.assertEqual(parts_from(book, state, (1, ("x",))), (((";", "x"),), None))
        self.assertEqual(parts_from(book, state, (0, ("x",))), ((("}", "}", ";", "x"),), None))


class TestWords(unittest.TestCase):
    def test_brackets_and_closers(self):
        book = book_with("deeper", "filled")
        self.assertEqual(Reading(book, Text((0, ("l", "m", "x", "n", "r")))).parts,
                         ((";", "l", "m", "x", "n", "r"), ()))
        for words in (("x", "r"), ("l", "n"), ("l", "m", "r"), ("l", "r", "r")):
            self.assertEqual(Reading(book, Text((0, words))).fault, (0, "closer"))

    def test_a_closer_ends_the_blocks_above_its_bracket(self):
        book = book_with("deeper", "filled")
        state = (((1, "p"), (-1, "m"), (-1, "l"), (3, "o"), (4, "p")), "")
        found = Reading(book, Text((9, ("r", "x", "n"))), state, is_open=True)
        self.assertEqual([found.parts, found.last_state], [(("}", "}", "r", "x", "n"),), (((1, "p"),), "")])
        self.assertEqual(parts_from(book, state, (9, ("n",))), ((), (0, "closer")))

    def test_enders(self):
        book = book_with("deeper", "filled", "joins", "joins")
        state = (((1, "o"), (2, "o"), (3, "p"), (4, "p")), "")
        found = Reading(book, Text((9, ("x", "e"))), state, is_open=True)
        self.assertEqual([found.parts, found.last_state], [(("x", "}", "}", "}", "e"),), (((1, "o"),), "")])
        found = Reading(book, Text((9, ("e", "x", "e"))), state, is_open=True)
        self.assertEqual([found.parts, found.last_state], [(("}", "}", "}", "e", "x", "}", "e"),), EMPTY])
        self.assertEqual(parts_from(book, state, (9, ("e", "e", "e"))), ((), (0, "ender")))

    def test_an_ender_and_brackets(self):
        book = book_with("deeper", "filled")
        for pile in ((), ((1, "p"),), ((1, "o"), (-1, "l")), ((1, "o"), (-1, "l"), (2, "p"))):
            self.assertEqual(parts_from(book, (pile, ""), (0, ("e",))), ((), (0, "ender")))
        state = (((1, "o"), (-1, "l"), (2, "o"), (3, "p")), "")
        self.assertEqual(parts_from(book, state, (0, ("e", "r", "e"))), ((("}", "}", "e", "r", "}", "e"),), None))

    def test_openers_that_are_not_the_last_word(self):
        book = book_with("deeper", "filled")
        reading = Reading(book, Text((0, ("o", "x")), (0, ("o", "p", "x")), (0, ("x",))))
        self.assertEqual(reading.parts, ((";", "o", "x"), (";", "o", "p", "x"), (";", "x"), ()))
        self.assertEqual(Reading(book, Text((0, ("o", "o"))), is_open=True).last_state, ((), "o"))

    def test_an_opener_behind_a_bracket(self):
        book = book_with("deeper", "filled", "breaks", "breaks")
        reading = Reading(book, Text((0, ("l", "o")), (0, ("x",)), (7, ("r", "o")), (1, ("x",)), (0, ("x",))))
        self.assertEqual(reading.parts, ((";", "l", "o"), ("{", "x"), ("}", "r", "o"), ("{", "x"), ("}", ";", "x"), ()))


class TestEnd(unittest.TestCase):
    def test_blocks_are_ended(self):
        book = book_with("deeper", "filled")
        self.assertEqual(Reading(book, Text(), (((1, "o"), (2, "p")), "")).parts, (("}", "}"),))
        self.assertEqual(Reading(book, Text()).parts, ((),))

    def test_an_opener_that_waits(self):
        for depth in ("deeper", "level"):
            state = (((1, "o"),), "o")
            self.assertEqual(Reading(book_with(depth, "empty"), Text(), state).parts, (("{", "}", "}"),))
            self.assertEqual(Reading(book_with(depth, "filled"), Text(), state).fault, (0, "filled"))
            found = Reading(book_with(depth, "filled"), Text((0, ("o",))))
            self.assertEqual([found.parts, found.fault], [((";", "o"),), (1, "filled")])

    def test_brackets(self):
        for need, reason in (("empty", "open"), ("filled", "filled")):
            book = book_with("deeper", need)
            self.assertEqual(Reading(book, Text(), (((1, "o"), (-1, "l")), "")).fault, (0, "open"))
            self.assertEqual(Reading(book, Text(), (((-1, "l"), (1, "o")), "")).fault, (0, "open"))
            self.assertEqual(Reading(book, Text((0, ("l", "o")))).fault, (1, reason))

    def test_open_readings_have_no_end(self):
        for book in kinds_of_books():
            for state in ((((1, "p"),), "o"), (((-1, "l"),), "o"), (((1, "p"),), "")):
                found = Reading(book, Text(), state, is_open=True)
                self.assertEqual([found.parts, found.fault, found.last_state], [(), None, state])


class TestBeside(unittest.TestCase):
    """The readings beside those of the plain program that the tests have."""

    def assert_beside(self, book, text, state=EMPTY):
        for is_open in (False, True):
            reading = Reading(book, text, state, is_open=is_open)
            found = (reading.parts, reading.fault, reading.states, reading.heads)
            self.assertEqual(found, naive.read(book, text.lines, state, is_open), (book.text, str(text), state))

    def test_the_documents_texts(self):
        for book in (py_book(), hs_book(), ya_book()):
            for text in (loop_text(), case_text(), loop_text() + case_text()):
                self.assert_beside(book, text)

    def test_all_small_texts(self):
        words = (("x",), ("o",), ("p",), ("e",), ("r",), ("l", "o"), ("x", "e"), ("x", "r"), ("l", "r"))
        lines = list(itertools.product((0, 1, 2), words))
        for book in kinds_of_books():
            for pair in itertools.product(lines, repeat=2):
                self.assert_beside(book, Text(*pair), EMPTY)

    def test_lines_behind_each_small_state(self):
        words = (("x",), ("e",), ("r",), ("x", "e", "r"), ("o",))
        blocks = [(0, "o"), (1, "o"), (2, "o"), (1, "p"), (2, "p"), (-1, "l"), (-1, "m")]
        for book in kinds_of_books():
            for many in range(3):
                for pile in itertools.product(blocks, repeat=many):
                    if naive.is_regular(book, pile):
                        for line in itertools.product((0, 1, 2, 3), words):
                            self.assert_beside(book, Text(line), (pile, "o" if line[0] % 2 else ""))

    def test_longer_texts(self):
        chance = random.Random(4)
        for _ in range(3000):
            book = random_book(chance)
            columns = chance.choice(((0, 1, 2, 3), (0, 2, 4), (0, 0, 0, 1, 199)))
            self.assert_beside(book, random_text(chance, book, chance.randint(0, 60), columns))


if __name__ == "__main__":
    unittest.main()
