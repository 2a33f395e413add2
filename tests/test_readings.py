"""Readings: [4.1], [4.2] and the class Reading, with its errors in their order."""

import inspect
import itertools
import random
import unittest

from offside.base.books import Book
from offside.base.texts import Text
from offside.errors import Broken, InvalidBook, InvalidNumber, InvalidOperation, InvalidState, InvalidText
from offside.read import reading as module
from offside.read.reading import Reading, is_row
from tests import naive
from tests.values import (SIXTY, Refusing, case_text, hs_book, kinds_of_books, loop_text, not_of, odd_values, py_book,
                          random_book, random_state, random_text, ya_book)

FORTY = (tuple((at, "if") for at in range(1, 41)), "")


def rich_book():
    """A book with empty and filled openers, an ender and brackets, in which lines join."""
    openers = {"o": ("deeper", "empty"), "p": ("level", "empty"), "f": ("deeper", "filled")}
    return Book(openers, {"e": "o"}, {"l": "r", "m": "n"}, deep="joins", gap="joins")


class TestExample(unittest.TestCase):
    def test_the_documents(self):
        loop, case = Reading(py_book(), loop_text()), Reading(hs_book(), case_text())
        parts = ((";", "def"), ("{", "a", "if"), ("{", "b"), ("}", ";", "c"), ("}",))
        self.assertEqual([loop.parts, loop.blocks], [parts, (("def", 0, 1, 3), ("if", 1, 2, 2))])
        self.assertEqual([case.parts[3:], case.fault], [(("}", "c"), (";", "d"), ("}",)), None])
        broken = Reading(py_book(), case_text())
        self.assertEqual([broken.parts, broken.fault], [((";", "x", "of"),), (1, "deep")])
        self.assertEqual([str(loop), case.states[3], case.home(3), case.depth(4)],
                         ["4 lines, 11 signs", (((2, "of"), (6, "of")), ""), 0, 1])


class TestInterface(unittest.TestCase):
    def test_names(self):
        self.assertEqual(module.REASONS, ("closer", "deep", "ender", "filled", "gap", "open"))
        told = {"row": "(self)", "depth": "(self, index)", "home": "(self, index)",
                "then": "(self, text, *, is_open=False)"}
        for name, parameters in told.items():
            self.assertEqual(str(inspect.signature(vars(Reading)[name])), parameters, name)
        self.assertEqual(str(inspect.signature(Reading)), "(book, text, state=((), ''), *, is_open=False)")
        self.assertEqual(str(inspect.signature(is_row)), "(book, text, value)")

    def test_it_never_changes(self):
        reading = Reading(py_book(), loop_text())
        for name in ("book", "text", "state", "parts", "fault", "signs", "states", "heads", "last_state", "blocks"):
            with self.assertRaises(AttributeError):
                setattr(reading, name, 1)


class TestTold(unittest.TestCase):
    def test_a_text_that_is_read(self):
        reading = Reading(py_book(), loop_text())
        self.assertEqual([reading.book, reading.text, reading.state], [py_book(), loop_text(), ((), "")])
        self.assertEqual(reading.signs, tuple("; def { a if { b } ; c }".split()))
        self.assertEqual([reading.heads, reading.fault], [(1, 1, 1, 2), None])
        states = (((), ""), ((), "def"), (((4, "def"),), "if"), (((4, "def"), (8, "if")), ""), (((4, "def"),), ""))
        self.assertEqual([reading.states, reading.last_state], [states, states[-1]])
        self.assertEqual(reading.row(), reading.parts)
        self.assertEqual([reading[at] for at in range(5)], list(reading.parts))
        self.assertEqual([list(reading), len(reading)], [list(reading.parts), 5])

    def test_an_open_reading(self):
        reading = Reading(py_book(), loop_text(), is_open=True)
        self.assertEqual([reading.parts, reading.fault, len(reading)],
                         [Reading(py_book(), loop_text()).parts[:4], None, 4])
        self.assertEqual([str(reading), reading.last_state], ["4 lines, 10 signs", (((4, "def"),), "")])

    def test_a_text_that_is_broken(self):
        text = loop_text().at((0, 4, 4, 4))
        for is_open in (False, True):
            reading = Reading(py_book(), text, is_open=is_open)
            self.assertEqual([reading.parts, reading.fault], [((";", "def"), ("{", "a", "if")), (2, "filled")])
            self.assertEqual([reading.heads, len(reading), str(reading)], [(1, 1), 2, "broken at 2: filled"])
            self.assertEqual([len(reading.states), reading.last_state], [3, (((4, "def"),), "if")])
            self.assertEqual(reading.signs, (";", "def", "{", "a", "if"))

    def test_a_text_that_is_broken_at_the_end(self):
        reading = Reading(py_book(), Text((0, ("x",)), (0, ("a", "if"))))
        self.assertEqual([reading.parts, reading.fault], [((";", "x"), (";", "a", "if")), (2, "filled")])
        self.assertEqual([len(reading.states), str(reading)], [3, "broken at 2: filled"])
        self.assertEqual(Reading(py_book(), Text((0, ("lp",)))).fault, (1, "open"))

    def test_each_reason(self):
        book = rich_book().joining(deep="breaks", gap="breaks")
        texts = {"closer": "x\nr", "deep": "x\n x", "ender": "x\nx e", "filled": "f\nx", "gap": "x o\n  x\n x",
                 "open": "x\nx l"}
        for reason, written in texts.items():
            text = Text.read(written)
            found = Reading(book, text)
            self.assertEqual(found.fault[1], reason)
            self.assertEqual(str(found), f"broken at {found.fault[0]}: {reason}")
            self.assertIn(reason, module.REASONS)

    def test_without_lines(self):
        reading = Reading(ya_book(), Text())
        self.assertEqual([reading.parts, reading.states, reading.heads, reading.signs, reading.blocks, str(reading)],
                         [((),), (((), ""),), (), (), (), "0 lines, 0 signs"])
        reading = Reading(ya_book(), Text(), (((0, "key"),), "key"), is_open=True)
        self.assertEqual([reading.parts, reading.last_state], [(), (((0, "key"),), "key")])
        self.assertEqual(Reading(ya_book(), Text(), (((0, "key"),), "key")).parts, (("{", "}", "}"),))

    def test_heads(self):
        reading = Reading(rich_book(), Text.read("x o\ne o\n e\nx o\n x\nx l o\nr e"), (((0, "p"),), ""), is_open=True)
        self.assertEqual([reading.fault, reading.heads[:2]], [(1, "ender"), (1,)])
        text = Text.read("x o\n x o\n e o\n   x p\nx o\ne x")
        reading = Reading(rich_book(), text, is_open=True)
        self.assertEqual(reading.fault, (5, "ender"))
        self.assertEqual(reading.parts, ((";", "x", "o"), ("{", "x", "o"), ("{", "}", "}", "e", "o"),
                                         ("{", "x", "p"), ("{", "}", "}", ";", "x", "o")))
        self.assertEqual(reading.heads, (1, 1, 2, 1, 4))

    def test_equal_values(self):
        state = (((4, "if"),), "")
        made = [Reading(py_book(), loop_text()), Reading(py_book(), loop_text(), is_open=True),
                Reading(hs_book(), loop_text()), Reading(py_book(), case_text()),
                Reading(py_book(), loop_text(), state), Reading(py_book(), loop_text(), state, is_open=True)]
        for one, other in itertools.product(enumerate(made), repeat=2):
            self.assertEqual([one[1] == other[1], one[1] != other[1]], [one[0] == other[0], one[0] != other[0]])
        self.assertEqual(made[4], Reading(py_book(), loop_text(), state))
        for value in odd_values() + [made[0].parts, str(made[0])]:
            self.assertFalse(made[0] == value)
            self.assertTrue(made[0] != value)


class TestBlocks(unittest.TestCase):
    def blocks(self, book, written, state=((), ""), is_open=False):
        return Reading(book, Text.read(written), state, is_open=is_open).blocks

    def test_blocks_of_lines(self):
        self.assertEqual(self.blocks(rich_book(), "x o\n x\n x\nx"), (("o", 0, 1, 2),))
        self.assertEqual(self.blocks(rich_book(), "x o\n x\n x e y\nx"), (("o", 0, 1, 2),))
        self.assertEqual(self.blocks(rich_book(), "x o\n x\n x\n e\nx"), (("o", 0, 1, 2),))
        self.assertEqual(self.blocks(rich_book(), "x o\n x o\n  x\n x"), (("o", 0, 1, 3), ("o", 1, 2, 2)))

    def test_brackets(self):
        self.assertEqual(self.blocks(rich_book(), "x l y r z"), (("l", 0, 0, 0),))
        self.assertEqual(self.blocks(rich_book(), "x l\n y\n z\nr"), (("l", 0, 0, 2),))
        self.assertEqual(self.blocks(rich_book(), "x l m\n y\n z n\nr"), (("l", 0, 0, 2), ("m", 0, 0, 2)))
        self.assertEqual(self.blocks(rich_book(), "x l o\n y m\nn z\nx r x"),
                         (("l", 0, 0, 3), ("o", 0, 1, 2), ("m", 1, 1, 1)))
        self.assertEqual(self.blocks(rich_book(), "l r"), (("l", 0, 0, 0),))

    def test_empty_ones(self):
        self.assertEqual(self.blocks(rich_book(), "x o\nx o\n  y\nz"), (("o", 0, -1, -1), ("o", 1, 2, 2)))
        self.assertEqual(self.blocks(rich_book(), "x o"), (("o", 0, -1, -1),))
        self.assertEqual(self.blocks(rich_book(), "x o", is_open=True), ())
        self.assertEqual(self.blocks(rich_book(), "x l o\nr"), (("l", 0, 0, 0), ("o", 0, -1, -1)))
        self.assertEqual(self.blocks(rich_book(), "", ((), "o")), (("o", -1, -1, -1),))
        self.assertEqual(self.blocks(rich_book(), "", ((), "o"), True), ())

    def test_openers_of_the_state_ahead(self):
        self.assertEqual(self.blocks(rich_book(), " x\nx", ((), "o")), (("o", -1, 0, 0),))
        self.assertEqual(self.blocks(rich_book(), "x\nx", ((), "o")), (("o", -1, -1, -1),))
        state = (((1, "o"), (-1, "l"), (3, "o")), "p")
        self.assertEqual(self.blocks(rich_book(), "   x e o\n r\nx", state), (("p", -1, 0, 0), ("o", 0, -1, -1)))

    def test_those_that_are_not_ended(self):
        self.assertEqual(self.blocks(rich_book(), "x o\n x l\n x", is_open=True), (("o", 0, 1, 2), ("l", 1, 1, 2)))
        self.assertEqual(self.blocks(rich_book(), "x o\n x l\n x"), (("o", 0, 1, 2), ("l", 1, 1, 2)))
        self.assertEqual(self.blocks(rich_book(), "x l o"), (("l", 0, 0, 0),))

    def test_what_a_broken_line_does_is_left_out(self):
        book = rich_book().joining(deep="breaks", gap="breaks")
        self.assertEqual(self.blocks(book, "x o\n  x\n x\nx"), (("o", 0, 1, 1),))
        self.assertEqual(self.blocks(book, "x o\n  x\n  x\nl x o r r"), (("o", 0, 1, 2),))
        self.assertEqual(self.blocks(book, "x l\ny m r"), (("l", 0, 0, 0),))
        self.assertEqual(self.blocks(book, "x o\n    y e e\nx"), ())

    def test_homes(self):
        reading = Reading(rich_book(), Text.read("x o\n x l\ny\nr o\n  z\n e\nx\n"[:-1]), is_open=True)
        self.assertEqual(reading.parts[2:], (("y",), ("r", "o"), ("{", "z"), ("}", "e"), ("}", ";", "x")))
        self.assertEqual(reading.blocks, (("o", 0, 1, 5), ("l", 1, 1, 2), ("o", 3, 4, 4)))
        self.assertEqual([reading.home(at) for at in range(7)], [None, 0, 1, 1, 2, 2, None])
        self.assertEqual([reading.depth(at) for at in range(7)], [0, 2, 2, 1, 2, 1, 0])

    def test_homes_in_the_state_ahead(self):
        state = (((1, "o"), (3, "o")), "")
        reading = Reading(rich_book(), Text.read("   x o\n     x\n   x\n x\nx"), state)
        self.assertEqual([reading.home(at) for at in range(5)], [None, 0, None, None, None])
        self.assertEqual([reading.depth(at) for at in range(5)], [2, 3, 2, 1, 0])

    def test_beside_the_plain_program(self):
        chance = random.Random(7)
        for _ in range(4000):
            book = random_book(chance)
            columns = chance.choice(((0, 1, 2, 3), (0, 2), (0, 0, 5)))
            text = random_text(chance, book, chance.randint(0, 8), columns)
            state = random_state(chance, book, 3, columns)
            if not naive.is_regular(book, state[0]):
                state = ((), state[1])
            for is_open in (False, True):
                reading = Reading(book, text, state, is_open=is_open)
                blocks, homes = naive.blocks(book, text.lines, state, is_open)
                told = (book.text, str(text), state, is_open)
                self.assertEqual(reading.blocks, blocks, told)
                self.assertEqual([reading.home(at) for at in range(len(reading.heads))], homes, told)
                depths = [len(pile) for pile, _ in reading.states[1:]]
                self.assertEqual([reading.depth(at) for at in range(len(reading.heads))], depths)


class TestThen(Refusing):
    def test_a_text_in_parts(self):
        chance = random.Random(8)
        for _ in range(1500):
            book = random_book(chance)
            text = random_text(chance, book, chance.randint(0, 9), (0, 1, 2))
            place = chance.randint(0, len(text))
            first = Reading(book, text.part(0, place), is_open=True)
            whole = Reading(book, text)
            if first.fault is not None:
                self.assertEqual([first.fault, first.parts], [whole.fault, whole.parts])
                continue
            for is_open in (False, True):
                whole = Reading(book, text, is_open=is_open)
                second = first.then(text.part(place, len(text)), is_open=is_open)
                fault = None if second.fault is None else (second.fault[0] + place, second.fault[1])
                self.assertEqual([first.parts + second.parts, fault], [whole.parts, whole.fault])
                self.assertEqual([first.states[:-1] + second.states, second.text],
                                 [whole.states, text.part(place, len(text))])

    def test_from_more_than_forty_blocks(self):
        first = Reading(py_book(), Text((41, ("a", "if")), (42, ("b",)))
                        .at((40, 42)), (FORTY[0], ""), is_open=True)
        self.assertEqual(len(first.last_state[0]), 41)
        second = first.then(Text((42, ("x", "if")), (43, ("y",))), is_open=True)
        self.assertEqual([second.parts, len(second.state[0]), len(second.last_state[0])],
                         [((";", "x", "if"), ("{", "y")), 41, 42])
        third = second.then(Text((5, ("z",))))
        self.assertEqual(third.parts, (("}",) * 37 + (";", "z"), ("}",) * 5))
        self.assertEqual([third == second.then(Text((5, ("z",)))), third == second], [True, False])
        self.assertEqual(first.then(Text()).parts, (("}",) * 41,))

    def test_from_a_block_in_the_last_column(self):
        first = Reading(py_book(), Text((0, ("if",)), (199, ("x",))), is_open=True)
        second = first.then(Text((199, ("y",)), (0, ("z",))))
        self.assertEqual([second.state, second.parts], [(((199, "if"),), ""), ((";", "y"), ("}", ";", "z"), ())])

    def test_errors(self):
        read, open_one = Reading(py_book(), loop_text()), Reading(py_book(), loop_text(), is_open=True)
        broken = Reading(py_book(), case_text())
        open_broken = Reading(py_book(), case_text(), is_open=True)
        for value in not_of(Text):
            for reading in (read, open_one, broken):
                self.assert_refused(InvalidText, "no", reading.then, value)
                self.assert_refused(InvalidText, "no", reading.then, value, is_open=1)
        for value in odd_values():
            if not isinstance(value, bool):
                for reading in (read, open_one, broken):
                    self.assert_refused(InvalidOperation, "no", reading.then, Text(), is_open=value)
        for is_open in (False, True):
            self.assert_refused(InvalidOperation, "no", read.then, Text(), is_open=is_open)
            self.assert_refused(Broken, 1, broken.then, Text(), is_open=is_open)
            self.assert_refused(Broken, 1, open_broken.then, Text(), is_open=is_open)
        self.assert_refused(Broken, 1, Reading(py_book(), Text((0, ("lp",)))).then, Text())
        self.assertEqual(open_one.then(Text()).parts, (("}",),))


class TestErrors(Refusing):
    def test_making(self):
        for value in not_of(Book):
            self.assert_refused(InvalidBook, "no", Reading, value, loop_text())
            self.assert_refused(InvalidBook, "no", Reading, value, value, value, is_open=value)
        for value in not_of(Text):
            self.assert_refused(InvalidText, "no", Reading, py_book(), value)
            self.assert_refused(InvalidText, "no", Reading, py_book(), value, value, is_open=value)
        wrong = [((), "of"), ((), None), ([], ""), ((), "", ""), (((4, "of"),), ""), (((4, "if"), (4, "if")), ""),
                 (((0, "if"),), ""), (((199, "if"),), ""), (((-1, "if"),), ""), (((0, "lp"),), ""),
                 (((True, "if"),), ""), (FORTY[0] + ((41, "if"),), "")]
        for value in wrong + odd_values():
            self.assert_refused(InvalidState, "no", Reading, py_book(), Text(), value)
            self.assert_refused(InvalidState, "no", Reading, py_book(), Text(), value, is_open=None)
        for value in odd_values():
            if not isinstance(value, bool):
                self.assert_refused(InvalidOperation, "no", Reading, py_book(), Text(), is_open=value)
        with self.assertRaises(TypeError):
            Reading(py_book(), Text(), ((), ""), True)

    def test_rows(self):
        self.assert_refused(InvalidOperation, "no", Reading(py_book(), loop_text(), is_open=True).row)
        self.assert_refused(InvalidOperation, "no", Reading(py_book(), case_text(), is_open=True).row)
        self.assert_refused(Broken, 1, Reading(py_book(), case_text()).row)
        self.assert_refused(Broken, 1, Reading(py_book(), Text((0, ("if",)))).row)
        self.assertEqual(Reading(py_book(), Text(), (((4, "if"),), "")).row(), (("}",),))

    def test_lines_and_parts(self):
        reading, broken = Reading(py_book(), loop_text()), Reading(py_book(), case_text())
        calls = [(reading.depth, 4), (reading.home, 4), (reading.__getitem__, 5), (broken.depth, 1), (broken.home, 1),
                 (broken.__getitem__, 1), (Reading(py_book(), Text(), is_open=True).__getitem__, 0)]
        for call, first in calls:
            for value in [first, -1, SIXTY, 10 ** 99, True, False, None, "0", (0,), [], {}, py_book()]:
                self.assert_refused(InvalidNumber, value, call, value)
        self.assertEqual([reading.depth(3), reading[4]], [1, ("}",)])

    def test_all_objects_stay(self):
        book, text = rich_book(), Text.read("x o\n x l\ny\nr o\n  z\n e\nx")
        reading = Reading(book, text, is_open=True)
        before = [reading.parts, reading.states, reading.blocks, reading.heads, reading.fault, str(reading)]
        reading.then(text)
        for call in (reading.row, lambda: reading.then(None), lambda: reading[99], lambda: reading.home(-1)):
            with self.assertRaises(Exception):
                call()
        self.assertEqual([reading.parts, reading.states, reading.blocks, reading.heads, reading.fault, str(reading)],
                         before)
        self.assertEqual([book, text], [rich_book(), Text.read("x o\n x l\ny\nr o\n  z\n e\nx")])


class TestIsRow(Refusing):
    def test_rows(self):
        row = Reading(py_book(), loop_text()).row()
        self.assertIs(is_row(py_book(), loop_text(), row), True)
        self.assertIs(is_row(py_book(), Text(), ((),)), True)
        near = [row[:-1], row + ((),), row[1:], list(row), tuple(list(signs) for signs in row), (), None,
                row[:2] + (("{", "b", "x"),) + row[3:], row[:2] + (("b",),) + row[3:],
                row[:2] + (("{", "c"),) + row[3:]]
        for value in near + odd_values() + [Reading(py_book(), loop_text())]:
            self.assertIs(is_row(py_book(), loop_text(), value), False)

    def test_broken_texts_have_none(self):
        reading = Reading(py_book(), case_text())
        for value in (reading.parts, None, (), (reading.parts,)):
            self.assertIs(is_row(py_book(), case_text(), value), False)
        self.assertIs(is_row(py_book(), Text((0, ("if",))), ((";", "if"),)), False)

    def test_errors(self):
        for value in not_of(Book):
            self.assert_refused(InvalidBook, "no", is_row, value, None, ())
        for value in not_of(Text):
            self.assert_refused(InvalidText, "no", is_row, py_book(), value, ())


class TestStatements(unittest.TestCase):
    """Of the main statements those that are about readings: [0.26]."""

    def test_maps_of_columns(self):
        chance = random.Random(9)
        for _ in range(1000):
            book = random_book(chance)
            text = random_text(chance, book, chance.randint(0, 7), (0, 1, 2, 5))
            levels = [0] + sorted(chance.sample(range(1, 200), 5))
            moved = text.at(tuple(levels[column] for column in text.columns))
            one, other = Reading(book, text), Reading(book, moved)
            self.assertEqual([one.parts, one.fault], [other.parts, other.fault])

    def test_lines_that_stand_in_no_block_of_their_brackets(self):
        for book in kinds_of_books():
            for columns in itertools.product((0, 3, 9), repeat=2):
                text = Text((0, ("p",)), (5, ("l",)), (columns[0], ("x",)), (columns[1], ("y", "r")))
                self.assertIsNone(Reading(book, text).fault)

    def test_other_plain_words(self):
        chance = random.Random(10)
        for _ in range(500):
            book = random_book(chance)
            text = random_text(chance, book, chance.randint(0, 6), (0, 1, 2))
            lines = [(column, tuple("new" if word == "x" else word for word in words)) for column, words in text]
            one, other = Reading(book, text), Reading(book, Text(*lines))
            self.assertEqual(tuple("new" if sign == "x" else sign for sign in one.signs), other.signs)
            self.assertEqual([one.fault, one.heads], [other.fault, other.heads])

    def test_lines_behind_have_no_effect(self):
        chance = random.Random(11)
        for _ in range(500):
            book = random_book(chance)
            text, more = (random_text(chance, book, chance.randint(0, 5), (0, 1, 2)) for _ in range(2))
            one, other = Reading(book, text, is_open=True), Reading(book, text + more, is_open=True)
            self.assertEqual(one.parts, other.parts[:len(one.parts)])


if __name__ == "__main__":
    unittest.main()
