"""The shell: [15.2] and [15.3]."""

import inspect
import random
import unittest

from offside.base.books import Book
from offside.base.texts import Text
from offside.demand.changes import price, repaired
from offside.demand.columns import System
from offside.demand.rows import Wanted
from offside.errors import InvalidBook, InvalidOperation
from offside.read.reading import Reading
from offside.text.shell import Shell
from offside.text.texts import write_columns, write_row
from tests.values import (Refusing, case_text, hs_book, loop_text, not_of, odd_values, py_book, random_book, random_text,
                          ya_book)


def line_command(line):
    return f"line {line[0]} {' '.join(line[1])}"


def shell_with(book, text):
    shell = Shell(book)
    shell.run_all(*[line_command(line) for line in text])
    return shell


def told(shell):
    return [shell.book, shell.text, shell.wanted]


class TestExamples(unittest.TestCase):
    def test_those_of_the_document(self):
        shell = Shell(py_book())
        self.assertEqual(shell.run_all("line 0 def", "line 4 a if", "line 8 b", "line 4 c", "line 4 d", "read", "want",
                                       "narrow", "forced 2 1"),
                         ("ok", "ok", "ok", "ok", "ok", "; def\n{ a if\n{ b\n} ; c\n; d\n}", "ok", "0 1 2 1 1", "1"))
        self.assertEqual(shell.run_all("drop", "line 5 d", "read", "fix", "text", "gap breaks now", "without def",
                                       "ender if fi"),
                         ("ok", "ok", "broken 4 deep", "ok", "def\n    a if\n        b\n    c\n    d",
                          "error ParseError", "ok", "error InvalidBook"))
        self.assertEqual([len(shell.answers), shell.answers[0], shell.answers[-1]],
                         [17, ("line 0 def", "ok"), ("ender if fi", "error InvalidBook")])
        self.assertEqual(shell.book, py_book().without("def"))

    def test_a_new_shell(self):
        shell = Shell(hs_book())
        self.assertEqual([shell.book, shell.text, shell.wanted, shell.answers], [hs_book(), Text(), None, ()])
        self.assertEqual(shell.run_all(), ())
        self.assertEqual(shell.run_all("text", "read", "want", "row", "narrow", "wide", "fix", "forced -1 -1", "book"),
                         ("", "-", "ok", "-", "-", "-", "ok", "0", hs_book().text))
        self.assertEqual(shell.wanted, ((),))

    def test_names(self):
        calls = {Shell: "(book)", Shell.run: "(self, command)", Shell.run_all: "(self, *commands)"}
        for call, parameters in calls.items():
            self.assertEqual(str(inspect.signature(call)), parameters, call)


class TestCommands(Refusing):
    def test_books(self):
        shell, book = Shell(ya_book()), ya_book()
        steps = [("opener of deeper empty", lambda old: old.with_opener("of", "deeper", "empty")),
                 ("ender in of", lambda old: old.with_ender("in", "of")),
                 ("bracket lp rp", lambda old: old.with_bracket("lp", "rp")),
                 ("opener key deeper filled", lambda old: old.with_opener("key", "deeper", "filled")),
                 ("deep joins", lambda old: old.joining(deep="joins")),
                 ("gap joins", lambda old: old.joining(gap="joins")),
                 ("deep breaks", lambda old: old.joining(deep="breaks")),
                 ("without key", lambda old: old.without("key")), ("without rp", lambda old: old.without("rp")),
                 ("without in", lambda old: old.without("in"))]
        for command, change in steps:
            book = change(book)
            self.assertEqual([shell.run(command), shell.book, shell.run("book")], ["ok", book, book.text])

    def test_texts(self):
        shell = Shell(py_book())
        for at, line in enumerate(loop_text()):
            self.assertEqual([shell.run(line_command(line)), shell.text], ["ok", loop_text().part(0, at + 1)])
        self.assertEqual(shell.run("text"), str(loop_text()))
        self.assertEqual([shell.run("line 199 a b c d e f"), shell.text[4]], ["ok", (199, tuple("abcdef"))])
        for at in range(5, 0, -1):
            self.assertEqual([shell.run("drop"), len(shell.text)], ["ok", at - 1])
        self.assertEqual([shell.run("drop"), shell.run("text"), shell.text], ["error InvalidNumber", "", Text()])

    def test_readings(self):
        chance = random.Random(181)
        for _ in range(100):
            book = random_book(chance)
            text = random_text(chance, book, chance.randint(0, 4), (0, 1, 2))
            shell, reading = shell_with(book, text), Reading(book, text)
            expected = write_row(reading.parts) if reading.fault is None else "broken {} {}".format(*reading.fault)
            self.assertEqual(shell.run("read"), expected)
            self.assertEqual(shell.run("want"), "ok" if reading.fault is None else "error Broken")
            self.assertEqual(shell.wanted, reading.parts if reading.fault is None else None)
            if reading.fault is None:
                system = System.wanting(Wanted.of(book, text))
                self.assertEqual(shell.run_all("row", "narrow", "wide", "text"), (
                    expected, write_columns(system.narrowest), write_columns(system.widest), str(text)))
                for upper in range(-1, len(text)):
                    self.assertEqual(shell.run(f"forced {upper} -1"), str(system.forced(upper, -1)))

    def test_fixes(self):
        chance = random.Random(182)
        kinds = {"ok": 0, "none": 0}
        for _ in range(300):
            book = random_book(chance).joining(deep="joins")
            text = random_text(chance, book, chance.randint(1, 3), (0, 1, 2))
            if Reading(book, text).fault is None:
                shell = shell_with(book, text)
                row = Reading(book, text).parts
                self.assertEqual(shell.run("want"), "ok")
                for command in chance.sample(("deep breaks", "gap joins", "drop", "opener x deeper empty"), 2):
                    shell.run(command)
                while len(shell.text) < len(text):
                    shell.run(line_command((chance.randint(0, 3), text[len(shell.text)][1])))
                old, expected = shell.text, repaired(shell.book, shell.text, row)
                answer = shell.run("fix")
                kinds[answer] += 1
                self.assertEqual(answer, "none" if expected is None else "ok")
                if expected is None:
                    self.assertEqual([shell.text, shell.run("narrow"), shell.run("wide")], [old, "none", "none"])
                else:
                    self.assertEqual([Reading(shell.book, shell.text).parts, price(old.columns, shell.text.columns)],
                                     [row, price(old.columns, expected.columns)])
                self.assertEqual(shell.wanted, row)
        self.assertGreater(min(kinds.values()), 5)

    def test_rows_that_nothing_gives(self):
        shell = shell_with(hs_book(), Text((0, ("of",)), (0, ("x",))))
        self.assertEqual(shell.run_all("want", "row"), ("ok", "; of\n{ } ; x\n-"))
        # Impossible under this book: no word is an opener.
        shell.run("without of")
        self.assertEqual(shell.run_all("narrow", "wide", "fix", "forced 1 0", "row", "text"),
                         ("none", "none", "none", "error Impossible", "; of\n{ } ; x\n-", "of\nx"))

    def test_rows_by_another_book(self):
        book = Book({"of": ("level", "empty")}, {}, {}, deep="joins", gap="joins")
        shell = shell_with(book, Text((0, ("of",)), (0, ("x",))))
        shell.run_all("want", "drop", "line 0 x", "opener of deeper empty")
        self.assertEqual(shell.run_all("row", "narrow", "forced 1 0"), ("; of\n{ x\n}", "0 1", "1"))
        shell = shell_with(book, Text((0, ("x", "of")), (0, ("y",))))
        self.assertEqual(shell.run_all("want", "row"), ("ok", "; x of\n{ y\n}"))

    def test_systems_without_columns(self):
        # Behind an empty block of a level opener no line is level with the ground.
        shell = shell_with(Book({"of": ("deeper", "empty")}), Text((0, ("of",)), (0, ("x",))))
        shell.run_all("want", "opener of level empty")
        self.assertEqual(shell.run("row"), "; of\n{ } ; x\n-")
        self.assertEqual(shell.run_all("narrow", "wide", "forced 1 0", "fix", "forced 2 0", "forced -1 -1", "text"),
                         ("none", "none", "error NoColumns", "none", "error InvalidNumber", "error NoColumns", "of\nx"))


class TestErrors(Refusing):
    def check_unchanged(self, shell, commands, answer):
        """The commands have this answer, and change nothing but the answers."""
        for command in commands:
            before = told(shell)
            self.assertEqual([shell.run(command), command], [answer, command])
            self.assertEqual([told(shell), shell.answers[-1]], [before, (command, answer)])

    def test_no_commands(self):
        shell = shell_with(py_book(), loop_text())
        shell.run("want")
        wrong = ["", " ", "read ", " read", "read  ", "Read", "reads", "read\n", "\nread", "read now", "book text", "text 1",
                 "row 0", "want it", "narrow 1", "wide 1", "fix it", "drop 1", "drop last", "forced", "forced 1",
                 "forced 1 2 3", "forced  1 2", "forced 1 x", "forced x 1", "forced +1 0", "forced 01 0", "forced -0 0",
                 "forced 1 " + "9" * 61, "forced 1.0 0", "forced 1 2 ", "line", "line 0", "line a", "line a b", "line 0  a",
                 "line 0 a ", "line +4 a", "line 04 a", "line -0 a", "line " + "9" * 61 + " a", "line 1_0 a", "line \u0663 a",
                 "opener", "opener a", "opener a deeper", "opener a deeper empty x", "opener a  empty", "ender a",
                 "ender a b c", "bracket a", "bracket a b c", "without", "without if def", "deep", "deep joins now", "gap",
                 "gap joins joins", "undo", "help", "opener  deeper empty", "x" * 9000, "\n" * 9000, "line\t0\ta", "READ"]
        self.check_unchanged(shell, wrong, "error ParseError")
        self.assertEqual([shell.text, shell.book], [loop_text(), py_book()])

    def test_errors_of_calls(self):
        shell = shell_with(py_book(), loop_text())
        answers = {
            "error InvalidBook": ("opener rp deeper empty", "opener A deeper empty", "opener a Deeper empty", "ender a b",
                                  "opener a deeper full", "ender a A", "bracket a a", "bracket if lp", "bracket a b!",
                                  "deep join", "gap Breaks", "deep opener", "ender A if"),
            "error UnknownWord": ("without a", "without A", "without 7", "without with"),
            "error InvalidText": ("line 200 a", "line -1 a", "line 0 A", "line 0 a b c d e f g", "line 0 a\n", "line 0 7",
                                  "line " + "9" * 60 + " a", "line 0 nineabcde"),
            "error InvalidOperation": ("row", "narrow", "wide", "fix", "forced 0 0", "forced 9 9"),
        }
        for answer, commands in answers.items():
            self.check_unchanged(shell, commands, answer)

    def test_wanted_rows_of_other_sizes(self):
        shell = shell_with(py_book(), loop_text())
        shell.run_all("want", "drop")
        self.check_unchanged(shell, ("narrow", "wide", "fix", "forced 0 0", "forced 9 9"), "error InvalidRow")
        self.assertEqual([shell.run("row"), shell.run("line 4 x"), shell.run("narrow")],
                         ["; def\n{ a if\n{ b\n} ; c\n}", "ok", "none"])
        self.check_unchanged(shell, ("forced 0 0",), "error Impossible")
        shell.run_all("drop", "line 4 c")
        self.check_unchanged(shell, ("forced 4 0", "forced 0 4", "forced -2 0", "forced 0 " + "9" * 60),
                             "error InvalidNumber")
        self.assertEqual(shell.run_all("forced 3 1", "forced -1 3", "narrow"), ("0", "-198", "0 1 2 1"))

    def test_wanting_what_is_broken(self):
        shell = shell_with(py_book(), case_text())
        self.assertEqual(shell.run_all("read", "want", "row"), ("broken 1 deep", "error Broken", "error InvalidOperation"))
        shell = shell_with(py_book(), loop_text())
        shell.run_all("want", "line 1 z")
        kept = shell.wanted
        self.assertEqual([shell.run("want"), shell.wanted], ["error Broken", kept])
        self.assertEqual(shell_with(py_book(), Text((0, ("if",)))).run("read"), "broken 1 filled")

    def test_sixty_lines(self):
        shell = shell_with(py_book(), Text(*[(0, ("a",))] * 60))
        self.check_unchanged(shell, ("line 0 a",), "error TooMany")
        self.check_unchanged(shell, ("line 0 A", "line 200 a"), "error InvalidText")
        self.assertEqual([shell.run("want"), shell.run("wide"), shell.run("drop"), len(shell.text)],
                         ["ok", write_columns((0,) * 60), "ok", 59])

    def test_too_many_words(self):
        shell = Shell(Book({word: ("deeper", "filled") for word in "abcd"}, {word: "a" for word in "efg"},
                           {"h": "i", "j": "k"}))
        self.check_unchanged(shell, ("opener l deeper filled", "ender l a", "bracket l m", "opener e level filled",
                                     "ender h a", "opener i deeper filled", "ender a b"), "error InvalidBook")
        self.assertEqual(shell.run_all("without a", "opener h deeper filled", "book")[2].split("\n")[2:],
                         ["b deeper filled", "c deeper filled", "d deeper filled", "h deeper filled", "j closed k"])

    def test_values_that_are_no_strings(self):
        shell = shell_with(py_book(), loop_text())
        before = told(shell) + [shell.answers]
        for value in odd_values():
            if not isinstance(value, str):
                self.assert_refused(InvalidOperation, "no", shell.run, value)
                self.assert_refused(InvalidOperation, "no", shell.run_all, value)
                self.assert_refused(InvalidOperation, "no", shell.run_all, "drop", value, "drop")
        self.assertEqual(told(shell) + [shell.answers], before)
        for value in not_of(Book):
            self.assert_refused(InvalidBook, "no", Shell, value)

    def test_it_changes_by_commands_only(self):
        shell = Shell(py_book())
        for name in ("book", "text", "wanted", "answers"):
            with self.assertRaises(AttributeError):
                setattr(shell, name, 1)
        answers = shell.answers
        shell.run("book")
        self.assertEqual([answers, len(shell.answers)], [(), 1])
        with self.assertRaises(TypeError):
            list(shell)


if __name__ == "__main__":
    unittest.main()
