"""Texts of rows, columns, systems and states: [15.1] and what stands under stage 15."""

import inspect
import random
import unittest

from offside.demand.columns import System
from offside.demand.rows import Wanted
from offside.errors import InvalidDemand, InvalidNumber, InvalidOperation, InvalidRow, InvalidState, InvalidText, ParseError
from offside.read.reading import Reading
from offside.text.texts import (read_columns, read_row, read_state, read_system, write_columns, write_row, write_state,
                                write_system)
from tests.values import (SIXTY, Refusing, case_text, hs_book, loop_text, not_of, odd_values, py_book, random_book,
                          random_state, random_text)

PIECES = (" ", "\n", "-", "0", "1", "+", ":", "|", "a", "{", ";", "}", "9", "A", "\t", ".", "_", "\u0663", "\u00e9")


def near(text):
    """Strings near a text: an item or a character exchanged, left out, put in, or taken twice."""
    found = {text + piece for piece in PIECES} | {piece + text for piece in PIECES}
    for at in range(len(text)):
        found |= {text[:at] + piece + text[at + 1:] for piece in PIECES + ("",)}
        found |= {text[:at] + piece + text[at:] for piece in PIECES}
    return sorted(found - {text})


def no_strings():
    return [value for value in odd_values() if not isinstance(value, str)] + [b"-", b"0"]


def tried(call, *args):
    """What a call returns, or None if it raises an error of the package that is about texts."""
    try:
        return call(*args)
    except (ParseError, InvalidRow, InvalidNumber, InvalidDemand):
        return None


class TestExamples(unittest.TestCase):
    def test_rows(self):
        told = {((),): "-", ((";", "a"), ()): "; a\n-", (("}", ";", "c"), ("{",), ("}",)): "} ; c\n{\n}",
                ((),) * 61: "\n".join(["-"] * 61)}
        for row, text in told.items():
            self.assertEqual([write_row(row), read_row(text)], [text, row])
        self.assertEqual(write_row(Reading(py_book(), loop_text()).row()), "; def\n{ a if\n{ b\n} ; c\n}")

    def test_columns(self):
        told = {(): "-", (0,): "0", (0, 4, 2): "0 4 2", (199,) * 60: " ".join(["199"] * 60)}
        for columns, text in told.items():
            self.assertEqual([write_columns(columns), read_columns(text)], [text, columns])

    def test_systems(self):
        told = [(System(0), "0"), (System(2), "2"), (System(60, ((3, 1, -2),)), "60\n3 1 -2"),
                (System(3, ((1, 0, 1), (-1, 2, -199), (1, 0, 1))), "3\n1 0 1\n-1 2 -199\n1 0 1")]
        for system, text in told:
            self.assertEqual([write_system(system), read_system(text), read_system(text).demands],
                             [text, system, system.demands])

    def test_states(self):
        told = {((), ""): "|", ((), "of"): "| of", (((4, "of"), (-1, "lp")), "of"): "4:of -1:lp | of",
                (((0, "of"),), ""): "0:of |", (((199, "x"),) * 40, "y"): " ".join(["199:x"] * 40) + " | y"}
        for state, text in told.items():
            self.assertEqual([write_state(state), read_state(text)], [text, state])

    def test_names(self):
        told = {write_row: "(row)", read_row: "(text)", write_columns: "(columns)", read_columns: "(text)",
                write_system: "(system)", read_system: "(text)", write_state: "(state)", read_state: "(text)"}
        for call, parameters in told.items():
            self.assertEqual(str(inspect.signature(call)), parameters, call)


class TestWrittenAndReadAgain(unittest.TestCase):
    def test_random_values(self):
        chance = random.Random(171)
        for _ in range(300):
            book = random_book(chance)
            text = random_text(chance, book, chance.randint(0, 6), (0, 1, 2, 60, 199))
            reading = Reading(book, text)
            if reading.fault is None:
                self.assertEqual(read_row(write_row(reading.row())), reading.row())
                system = System.wanting(Wanted.of(book, text))
                self.assertEqual(read_system(write_system(system)).demands, system.demands)
            self.assertEqual(read_columns(write_columns(text.columns)), text.columns)
            state = random_state(chance, book, 5, (0, 7, 198))
            self.assertEqual(read_state(write_state(state)), state)

    def test_strings_near_texts(self):
        """Each value has one text, from which it is read."""
        texts = {read_row: (write_row, ["; a\n{ b c\n}", "-\n-", "-", "aa }"]),
                 read_columns: (write_columns, ["0 4 2", "-", "10 199", "0"]),
                 read_system: (write_system, ["3\n1 0 -1\n2 -1 10", "0", "12"]),
                 read_state: (write_state, ["4:of -1:lp | of", "|", "| a", "10:a |"])}
        for read, (write, told) in texts.items():
            found = 0
            for text in told:
                for other in near(text):
                    value = tried(read, other)
                    if value is not None:
                        found += 1
                        self.assertEqual(write(value), other, (text, other))
            self.assertGreater(found, 10)

    def test_items_exchanged(self):
        text = "; a\n{ b c\n}"
        for wrong, line in (("; a\n{  b c\n}", 1), (" ; a\n{ b c\n}", 0), ("; a\n{ b c \n}", 1), ("; a\n\n}", 1),
                            (text + "\n", 3), ("\n" + text, 0), ("; a\n{ b c\n} -", 2), ("; a\n- b\n}", 1),
                            ("; a\n{ b C\n}", 1), ("; a\n{ nineabcde\n}", 1), ("", 0), ("; a\r\n}", 0), ("-\n--", 1),
                            ("0", 0), ("{{", 0)):
            with self.assertRaises(ParseError, msg=wrong) as caught:
                read_row(wrong)
            self.assertEqual(caught.exception.line, line, wrong)


class TestErrors(Refusing):
    def test_writing_rows(self):
        for value in [(), (";",), [()], (("A",),), ((";", ""),), ((),) * 62, (("-",),)] + [
                value for value in odd_values() if value != (("deeper", "filled"),)]:
            self.assert_refused(InvalidRow, "no", write_row, value)

    def test_reading_rows(self):
        for value in no_strings():
            self.assert_refused(ParseError, None, read_row, value)
        self.assert_refused(InvalidRow, "no", read_row, "\n".join(["-"] * 62))
        self.assert_refused(ParseError, 63, read_row, "\n".join(["-"] * 63 + [""]))
        self.assert_refused(ParseError, 0, read_row, "x" * 9000)
        self.assert_refused(ParseError, 0, read_row, "\n" * 9000)

    def test_writing_columns(self):
        for value in [(200,), (-1,), (True,), (0,) * 61, [0], (0, "1"), (0, None)] + [
                value for value in odd_values() if value not in ((), (0,), (1,))]:
            self.assert_refused(InvalidText, "no", write_columns, value)
        self.assertEqual([write_columns((0,)), write_columns(())], ["0", "-"])

    def test_reading_columns(self):
        wrong = ["", " ", "0 ", " 0", "0  4", "0\n4", "+4", "04", "-0", "00", "200", "-1", "0 200", "- 0", "--", "4.0", "1_0",
                 "a", "9" * 60, "9" * 61, "\u0663", "0,4", " ".join(["0"] * 61), "0x1", "1e2", "\t1"]
        for value in wrong + odd_values():
            self.assert_refused(ParseError, None, read_columns, value)

    def test_writing_systems(self):
        for value in not_of(System) + ["0", (3, ())]:
            self.assert_refused(InvalidOperation, "no", write_system, value)

    def test_reading_systems(self):
        for value in no_strings():
            self.assert_refused(ParseError, None, read_system, value)
        wrong = {"": 0, "3 1 0": 0, "3 ": 0, " 3": 0, "+3": 0, "03": 0, "-0": 0, "3\n": 1, "3\n1 0": 1, "3\n1": 1,
                 "3\n1 0 1 2": 1, "3\n1 0 1\n1  0 1": 2, "3\n1 0 1\n1 0 +1": 2, "3\n1 0 -0": 1, "3\n01 0 1": 1,
                 "3\n1 0 1\n": 2, "x": 0, "3\n1 0 x\n1 0": 1, "-" + "9" * 61: 0, "9" * 61: 0, "61\n1 0": 1,
                 "3\n9 9 9\n1 0 1.0": 2, "3\n1 0 " + "9" * 61: 1}
        for text, line in wrong.items():
            self.assert_refused(ParseError, line, read_system, text)
        self.assert_refused(InvalidNumber, 61, read_system, "61\n9 9 999")
        self.assert_refused(InvalidNumber, -1, read_system, "-1")
        self.assert_refused(InvalidNumber, SIXTY, read_system, "9" * 60)
        self.assert_refused(InvalidNumber, -SIXTY, read_system, "-" + "9" * 60)
        for text in ("3\n3 0 1", "3\n0 -2 1", "3\n0 1 200", "3\n0 1 -200", "3\n0 1 " + "9" * 60,
                     "1\n" + "\n".join(["0 -1 1"] * 601)):
            self.assert_refused(InvalidDemand, "no", read_system, text)
        self.assertEqual(len(read_system("1\n" + "\n".join(["0 -1 1"] * 600)).demands), 600)

    def test_writing_states(self):
        block = (4, "of")
        wrong = [(block, "of"), ((block,), "Of"), ((block,), None), ((block,),), ((block,), "of", ""), [(block,), "of"],
                 ([block], "of"), (((200, "of"),), ""), (((-2, "of"),), ""), (((True, "of"),), ""), (((4, ""),), ""),
                 (((4, "of", 1),), ""), (([4, "of"],), ""), ((block,) * 41, ""), (((-1, None),), ""), (((4.0, "of"),), "")]
        for value in wrong + odd_values():
            self.assert_refused(InvalidState, "no", write_state, value)
        # No book is asked for: any column, any word.
        self.assertEqual([write_state((((199, "x"), (-1, "y"), (0, "x")), "z"))], ["199:x -1:y 0:x | z"])

    def test_reading_states(self):
        wrong = ["", " ", "of", "| ", " |", "|  of", "| of ", "| of of", "| |", "||", "4:of", "4:of of", "4:of | |",
                 "4 : of |", "4:of  |", "04:of |", "+4:of |", "-0:of |", "-2:of |", "200:of |", "4:Of |", "4: |", ":of |",
                 "4:of:of |", "4of |", "4:of\n|", "|\n", "4:of | Of", "| nineabcde", "-1:lp|", "9" * 61 + ":of |",
                 " ".join(["4:of"] * 41 + ["|"])]
        for value in wrong + odd_values():
            self.assert_refused(ParseError, None, read_state, value)
        self.assertEqual(read_state("|"), ((), ""))

    def test_values_that_are_no_states_of_a_book(self):
        self.assertEqual(read_state("4:in 2:of | x"), (((4, "in"), (2, "of")), "x"))
        self.assertEqual(len(Reading(hs_book(), case_text()).states), 6)


if __name__ == "__main__":
    unittest.main()
