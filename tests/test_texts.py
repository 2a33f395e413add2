"""Texts: [3.1] and the class Text, with its errors in their order."""

import inspect
import itertools
import unittest

from offside.base import texts
from offside.base.texts import Text
from offside.errors import InvalidNumber, InvalidOperation, InvalidText, ParseError, TooMany
from tests.values import SIXTY, Refusing, case_text, loop_text, no_integers, not_of, odd_values

SIX = ("a", "b", "c", "d", "e", "f")


def lines_of(many):
    return tuple((at % 200, ("a",)) for at in range(many))


def text_of(many):
    return Text(*lines_of(many))


class TestExample(unittest.TestCase):
    def test_the_documents(self):
        text = Text.read("a of\n  b\n  c")
        found = [text.lines, text.columns, text.moved(2).least, len(text + text.part(1, 3)), str(text.at((0, 4, 4)))]
        lines = ((0, ("a", "of")), (2, ("b",)), (2, ("c",)))
        self.assertEqual(found, [lines, (0, 2, 2), 2, 5, "a of\n    b\n    c"])
        with self.assertRaises(InvalidNumber):
            text.moved(-1)


class TestInterface(unittest.TestCase):
    def test_names(self):
        self.assertEqual(texts.MAX_LINES, 60)
        told = {"moved": "(self, by)", "at": "(self, columns)", "part": "(self, first, last)",
                "without": "(self, first, last)", "with_part": "(self, first, last, other)"}
        for name, parameters in told.items():
            self.assertEqual(str(inspect.signature(vars(Text)[name])), parameters, name)
        self.assertEqual(str(inspect.signature(Text)), "(*lines)")
        self.assertEqual(str(inspect.signature(Text.read)), "(string)")
        self.assertEqual(str(inspect.signature(Text.made)), "(columns, words)")


class TestMaking(Refusing):
    def test_lines(self):
        text = Text((0, ("a",)), (199, SIX))
        self.assertEqual(text.lines, ((0, ("a",)), (199, SIX)))
        self.assertEqual([text.columns, text.words], [(0, 199), (("a",), SIX)])
        self.assertEqual([text.least, text.greatest, len(text)], [0, 199, 2])
        self.assertEqual([case_text().least, case_text().greatest], [0, 6])

    def test_without_lines(self):
        text = Text()
        self.assertEqual([text.lines, text.columns, text.words, len(text)], [(), (), (), 0])
        self.assertIsNone(text.least)
        self.assertIsNone(text.greatest)

    def test_sixty_lines_and_one_more(self):
        self.assertEqual(len(text_of(60)), 60)
        self.assert_refused(TooMany, 60, Text, *lines_of(61))
        self.assert_refused(TooMany, 60, Text, *lines_of(200))

    def test_what_is_no_line(self):
        wrong = [(0,), (0, "a"), (0, ["a"]), [0, ("a",)], (0, ()), (-1, ("a",)), (200, ("a",)), (True, ("a",)),
                 (0, ("A",)), (0, SIX + ("g",)), (0, ("a",), 1), ("0", ("a",)), (None, ("a",)), (0, ("a", None))]
        for value in wrong + odd_values():
            self.assert_refused(InvalidText, "no", Text, value)
            self.assert_refused(InvalidText, "no", Text, (0, ("a",)), value)

    def test_what_is_no_line_comes_before_too_many(self):
        self.assert_refused(InvalidText, "no", Text, *lines_of(61), None)
        self.assert_refused(InvalidText, "no", Text, None, *lines_of(70))

    def test_it_keeps_nothing_that_changes(self):
        lines = [(0, ("a",)), (1, ("b",))]
        text = Text(*lines)
        lines[0] = (5, ("c",))
        self.assertEqual(str(text), "a\n b")
        for name in ("lines", "columns", "words", "least", "greatest"):
            with self.assertRaises(AttributeError):
                setattr(text, name, 1)


class TestWritten(Refusing):
    def test_forms(self):
        self.assertEqual(str(Text()), "")
        self.assertEqual(str(loop_text()), "def\n    a if\n        b\n    c")
        self.assertEqual(str(Text((199, ("a", "b")))), " " * 199 + "a b")

    def test_read_again(self):
        for text in (Text(), loop_text(), case_text(), text_of(60), Text((199, SIX)), Text((0, ("abcdefgh",)))):
            self.assertEqual(Text.read(str(text)), text)
            self.assertEqual(Text.read(str(text)).lines, text.lines)

    def test_rows_that_are_none(self):
        wrong = ["", " ", "   ", "a ", " a ", "a  b", "A", "a1", "a-b", "a\tb", "\ta", "{", ";", "-", "a b c d e f g",
                 "nineabcde", " " * 200 + "a", "0 a", "a\r"]
        for row in wrong:
            self.assert_refused(ParseError, 1, Text.read, "a\n" + row)
            self.assert_refused(ParseError, 2, Text.read, "a\n b\n" + row + "\nc")
            if row:
                self.assert_refused(ParseError, 0, Text.read, row)
        self.assert_refused(ParseError, 0, Text.read, "\n")
        self.assert_refused(ParseError, 0, Text.read, "\na")
        self.assert_refused(ParseError, 1, Text.read, "a\n")
        self.assert_refused(ParseError, 1, Text.read, "a\n\nb")
        self.assert_refused(ParseError, 0, Text.read, "\n" * 9000)
        self.assert_refused(ParseError, 0, Text.read, "x" * 9000)

    def test_the_first_row_is_told(self):
        self.assert_refused(ParseError, 1, Text.read, "a\nB\nC")
        self.assert_refused(ParseError, 60, Text.read, "\n".join(["a"] * 60 + ["A"]))

    def test_near_a_written_form(self):
        form = "a of\n  b\n  c d"
        for at in range(len(form) + 1):
            for sign in " \nxA;0":
                for near in (form[:at] + sign + form[at:], form[:at] + sign + form[at + 1:], form[:at] + form[at + 1:]):
                    self.check_reading(near)

    def check_reading(self, string):
        """The string is read as it is written, or its first wrong row is told."""
        rows = string.split("\n") if string else []
        wrong = [at for at, row in enumerate(rows) if not self.is_form(row)]
        if wrong:
            self.assert_refused(ParseError, wrong[0], Text.read, string)
        else:
            self.assertEqual(str(Text.read(string)), string)

    def is_form(self, row):
        words = row.lstrip(" ").split(" ")
        return all(word and set(word) <= set("abcdefghijklmnopqrstuvwxyz") for word in words)

    def test_too_many_rows(self):
        self.assertEqual(len(Text.read("\n".join(["a"] * 60))), 60)
        self.assert_refused(TooMany, 60, Text.read, "\n".join(["a"] * 61))
        self.assert_refused(ParseError, 70, Text.read, "\n".join(["a"] * 70 + ["a "]))

    def test_what_is_no_string(self):
        for value in odd_values() + [b"a", ["a"], ("a",)]:
            if not isinstance(value, str):
                self.assert_refused(ParseError, None, Text.read, value)


class TestMade(Refusing):
    def test_texts(self):
        self.assertEqual(Text.made((), ()), Text())
        self.assertEqual(Text.made((0, 4), (("a", "of"), ("b",))), Text((0, ("a", "of")), (4, ("b",))))
        self.assertEqual(Text.made((199,), (SIX,)).lines, ((199, SIX),))
        self.assertEqual(Text.made(text_of(60).columns, text_of(60).words), text_of(60))

    def test_no_such_text(self):
        wrong = [((0,), ()), ((), (("a",),)), ((0, 1), (("a",),)), ((200,), (("a",),)), ((-1,), (("a",),)),
                 ((True,), (("a",),)), ([0], (("a",),)), ((0,), [("a",)]), ((0,), (["a"],)), ((0,), ((),)),
                 ((0,), ("a",)), ((0,), (("A",),)), ((0,), (SIX + ("g",),)), ((0,) * 61, (("a",),) * 61),
                 ("0", (("a",),)), ((0,), None), (0, (("a",),))]
        for columns, words in wrong:
            self.assert_refused(InvalidText, "no", Text.made, columns, words)
        for value in odd_values():
            if not isinstance(value, tuple):
                self.assert_refused(InvalidText, "no", Text.made, value, (("a",),))
                self.assert_refused(InvalidText, "no", Text.made, (0,), value)
            if isinstance(value, bool) or not isinstance(value, int) or abs(value) > 199:
                self.assert_refused(InvalidText, "no", Text.made, (value,), (("a",),))
            if not isinstance(value, tuple):
                self.assert_refused(InvalidText, "no", Text.made, (0,), (value,))


class TestChanges(Refusing):
    def test_plus(self):
        one, other = loop_text(), case_text()
        self.assertEqual((one + other).lines, one.lines + other.lines)
        self.assertEqual([one + Text(), Text() + one, Text() + Text()], [one, one, Text()])
        self.assertEqual([one, other], [loop_text(), case_text()])
        self.assertEqual(text_of(30) + text_of(30), Text(*lines_of(30), *lines_of(30)))
        self.assert_refused(TooMany, 60, lambda: text_of(30) + text_of(31))
        self.assert_refused(TooMany, 60, lambda: text_of(60) + text_of(1))
        self.assertEqual(len(text_of(60) + Text()), 60)

    def test_plus_what_is_no_text(self):
        for value in not_of(Text) + [((0, ("a",)),)]:
            self.assert_refused(InvalidOperation, "no", lambda: loop_text() + value)
            self.assert_refused(InvalidOperation, "no", lambda: value + loop_text())
            self.assert_refused(InvalidOperation, "no", lambda: text_of(60) + value)

    def test_moved(self):
        text = Text((4, ("a",)), (0, ("b",)), (190, ("c",)))
        self.assertEqual(text.moved(9).columns, (13, 9, 199))
        self.assertEqual(text.moved(9).moved(-9), text)
        self.assertEqual([text.moved(0), text.words], [text, text.moved(9).words])
        for by in (10, -1, 200, -200, SIXTY, -SIXTY):
            self.assert_refused(InvalidNumber, by, text.moved, by)
        self.assertEqual(Text((199, ("a",))).moved(-199).columns, (0,))
        self.assertEqual([Text().moved(SIXTY), Text().moved(-5)], [Text(), Text()])

    def test_moved_by_what_is_no_integer(self):
        for value in no_integers():
            self.assert_refused(InvalidNumber, value, Text().moved, value)
            self.assert_refused(InvalidNumber, value, loop_text().moved, value)

    def test_at(self):
        self.assertEqual(loop_text().at((1, 2, 3, 199)).lines,
                         ((1, ("def",)), (2, ("a", "if")), (3, ("b",)), (199, ("c",))))
        self.assertEqual(Text().at(()), Text())
        self.assertEqual(loop_text().at(loop_text().columns), loop_text())

    def test_at_other_values(self):
        wrong = [(), (0,), (0, 1, 2), (0, 1, 2, 3, 4), (0, 1, 2, 200), (0, 1, 2, -1), (0, 1, 2, True), (0, 1, 2, "3"),
                 [0, 1, 2, 3], (0, 1, 2, None), (0, 1, 2, (3,)), (0, 1, 2, 10 ** 99)]
        for columns in wrong + odd_values():
            self.assert_refused(InvalidText, "no", loop_text().at, columns)

    def test_parts(self):
        text = case_text()
        for first in range(6):
            for last in range(first, 6):
                self.assertEqual(text.part(first, last).lines, text.lines[first:last])
                self.assertEqual(text.without(first, last).lines, text.lines[:first] + text.lines[last:])
                for other in (Text(), loop_text()):
                    lines = text.lines[:first] + other.lines + text.lines[last:]
                    self.assertEqual(text.with_part(first, last, other).lines, lines)
        self.assertEqual(text, case_text())

    def test_no_such_part(self):
        text = case_text()
        calls = [text.part, text.without, lambda first, last: text.with_part(first, last, Text())]
        for call in calls:
            for first in (-1, 6, True, None, "0", SIXTY, 10 ** 99, (0,)):
                for last in (0, 3, -1, None):
                    self.assert_refused(InvalidNumber, first, call, first, last)
            for last in (2, -1, 6, True, None, "3", SIXTY, (4,)):
                self.assert_refused(InvalidNumber, last, call, 3, last)
            for value in odd_values():
                if isinstance(value, bool) or value != 0 and value != 1:
                    self.assert_refused(InvalidNumber, value, call, value, 2)
                    self.assert_refused(InvalidNumber, value, call, 2, value)
        self.assert_refused(InvalidNumber, 1, Text().part, 1, 1)
        self.assertEqual(Text().part(0, 0), Text())

    def test_a_part_that_is_none(self):
        for value in not_of(Text):
            self.assert_refused(InvalidOperation, "no", case_text().with_part, 1, 2, value)
            self.assert_refused(InvalidNumber, 9, case_text().with_part, 9, 2, value)
            self.assert_refused(InvalidNumber, 0, case_text().with_part, 1, 0, value)

    def test_a_part_that_is_too_long(self):
        self.assertEqual(len(text_of(60).with_part(3, 5, text_of(2))), 60)
        self.assertEqual(len(text_of(60).with_part(0, 60, text_of(60))), 60)
        self.assert_refused(TooMany, 60, text_of(60).with_part, 3, 5, text_of(3))
        self.assert_refused(TooMany, 60, text_of(60).with_part, 60, 60, text_of(1))
        self.assert_refused(InvalidNumber, 61, text_of(60).with_part, 3, 61, text_of(3))


class TestLines(Refusing):
    def test_index(self):
        text = loop_text()
        self.assertEqual([text[at] for at in range(4)], list(text.lines))
        for at in (4, -1, SIXTY, True, False, None, "0", (0,), 10 ** 99):
            self.assert_refused(InvalidNumber, at, lambda: text[at])
        self.assert_refused(InvalidNumber, 0, lambda: Text()[0])
        for value in odd_values():
            if isinstance(value, bool) or value not in (0, 1):
                self.assert_refused(InvalidNumber, value, lambda: text[value])

    def test_iteration(self):
        for text in (Text(), loop_text(), text_of(60)):
            self.assertEqual([list(text), len(text)], [list(text.lines), len(text.lines)])

    def test_in(self):
        text = Text((1, ("a",)), (0, ("b", "c")), (1, ("a",)))
        for line in text:
            self.assertIn(line, text)
        for value in odd_values() + [(1, ("b",)), (True, ("a",)), (False, ("b", "c")), [1, ("a",)], (1, ["a"])]:
            self.assertNotIn(value, text)
        self.assertNotIn((1, ("a",)), Text())

    def test_equality(self):
        texts_ = [Text(), loop_text(), case_text(), loop_text().moved(1), Text((0, ("a",))), Text((0, ("a", "a")))]
        for one, other in itertools.product(enumerate(texts_), repeat=2):
            self.assertEqual(one[1] == other[1], one[0] == other[0])
            self.assertEqual(one[1] != other[1], one[0] != other[0])
        self.assertEqual(loop_text(), Text(*loop_text().lines))
        for value in odd_values() + [loop_text().lines, list(loop_text()), str(loop_text())]:
            self.assertFalse(loop_text() == value)
            self.assertTrue(loop_text() != value)


if __name__ == "__main__":
    unittest.main()
