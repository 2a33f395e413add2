"""The texts of books, and texts near them: [2.2] and Book.read."""

import itertools
import unittest

from offside.base.books import Book
from offside.errors import InvalidBook, ParseError
from tests.values import hs_book, nested, odd_values, py_book, ya_book

FILLED = ("deeper", "filled")
FULL = """deep joins
gap breaks
a deeper empty
c level filled
da ends c
z ends a
lb closed rb
lp closed rp"""


def full_book():
    openers = {"c": ("level", "filled"), "a": ("deeper", "empty")}
    return Book(openers, {"z": "a", "da": "c"}, {"lp": "rp", "lb": "rb"}, deep="joins")


class TestText(unittest.TestCase):
    def test_texts(self):
        self.assertEqual(full_book().text, FULL)
        self.assertEqual(Book().text, "deep breaks\ngap breaks")
        self.assertEqual(Book(deep="joins", gap="joins").text, "deep joins\ngap joins")
        self.assertEqual(ya_book().text, "deep breaks\ngap breaks\nkey level empty")
        lines = ["deep breaks", "gap breaks", "def deeper filled", "if deeper filled", "lp closed rp"]
        self.assertEqual(py_book().text.split("\n"), lines)

    def test_each_is_read_again(self):
        for book in (Book(), py_book(), hs_book(), ya_book(), full_book()):
            self.assertEqual(Book.read(book.text), book)
            self.assertEqual(Book.read(book.text).text, book.text)
        kinds = itertools.product(("deeper", "level"), ("filled", "empty"))
        for kind, deep, gap in itertools.product(kinds, ("joins", "breaks"), ("joins", "breaks")):
            book = Book({"of": kind, "do": FILLED}, {"in": "of"}, {"lp": "rp"}, deep=deep, gap=gap)
            self.assertEqual(Book.read(book.text), book)

    def test_words_that_are_like_the_texts_own(self):
        openers = {"deep": FILLED, "gap": FILLED, "ends": FILLED, "closed": FILLED}
        book = Book(openers, {"deeper": "ends", "filled": "closed", "level": "gap"}, {"joins": "breaks"})
        self.assertEqual(Book.read(book.text), book)


class Reading(unittest.TestCase):
    def assert_wrong(self, text, index):
        with self.assertRaises(ParseError, msg=text) as caught:
            Book.read(text)
        self.assertEqual(caught.exception.line, index, text)

    def assert_no_book(self, *lines):
        with self.assertRaises(InvalidBook, msg=lines):
            Book.read("\n".join(("deep joins", "gap joins") + lines))


class TestNoText(Reading):
    def test_no_string(self):
        for value in odd_values() + [b"deep joins\ngap joins", ["deep joins", "gap joins"], nested("list", 8)]:
            if not isinstance(value, str):
                self.assert_wrong(value, None)

    def test_fewer_than_two_lines(self):
        for text in ("", "deep joins", "deep breaks", "gap joins", "of deeper filled", "x" * 9000):
            self.assert_wrong(text, None)


class TestWrongLines(Reading):
    def test_the_first_one(self):
        near = ["", "deep", "deep  joins", " deep joins", "deep joins ", "deep join", "Deep joins", "deep level",
                "gap joins", "gap breaks", "deep breaks joins", "deepjoins", "deep\tjoins", "of deeper filled"]
        for line in near:
            self.assert_wrong(line + "\ngap joins", 0)
            self.assert_wrong(line + "\n" + line, 0)

    def test_the_second_one(self):
        near = ["", "gap", "gap  joins", " gap joins", "gap joins ", "gap join", "Gap joins", "deep joins",
                "deep breaks", "gap joins breaks", "of deeper filled"]
        for line in near:
            self.assert_wrong("deep joins\n" + line, 1)
            self.assert_wrong("deep joins\n" + line + "\nof deeper filled", 1)

    def test_further_ones(self):
        near = ["", " ", "of", "of deeper", "of filled deeper", "of deeper deeper", "of deeper filled ",
                " of deeper filled", "of  deeper filled", "of deeper  filled", "of deeper filled empty",
                "of deep filled", "of Deeper filled", "Of deeper filled", "nineabcde deeper filled", "1 deeper filled",
                "of\tdeeper filled", "in ends", "in ends Of", "in ends ", "In ends of", "in ends of of", "in end of",
                "in ends nineabcde", "lp closed", "lp closed RP", "LP closed rp", "lp closed rp rp", "lp closes rp",
                "lp closed ", " closed rp", "lp  closed rp", "deep joins", "gap breaks", "joins", "of deeper filled\r"]
        for line in near:
            self.assert_wrong("deep joins\ngap joins\n" + line, 2)
            self.assert_wrong("deep joins\ngap joins\na deeper filled\n" + line, 3)
            self.assert_wrong("deep joins\ngap joins\n" + line + "\n" + line, 2)

    def test_a_newline_at_the_end(self):
        self.assert_wrong("deep joins\n", 1)
        self.assert_wrong("deep joins\ngap joins\n", 2)
        self.assert_wrong(FULL + "\n", 8)
        self.assert_wrong("\n" + FULL, 0)
        self.assert_wrong("\n" * 9000, 0)

    def test_the_first_wrong_line_is_told(self):
        lines = FULL.split("\n")
        for one, other in itertools.combinations(range(len(lines)), 2):
            changed = lines[:one] + ["?"] + lines[one + 1:other] + ["?"] + lines[other + 1:]
            self.assert_wrong("\n".join(changed), one)


class TestOrder(Reading):
    def test_lines_that_change_places(self):
        lines = FULL.split("\n")
        for index in range(len(lines) - 1):
            changed = list(lines)
            changed[index], changed[index + 1] = lines[index + 1], lines[index]
            self.assert_wrong("\n".join(changed), 0 if index == 0 else 1 if index == 1 else index + 1)

    def test_lines_that_stand_twice(self):
        lines = FULL.split("\n")
        for index in range(2, len(lines)):
            self.assert_wrong("\n".join(lines[:index] + [lines[index]] + lines[index:]), index + 1)

    def test_a_word_that_stands_twice(self):
        head = "deep joins\ngap joins\n"
        self.assert_wrong(head + "of deeper empty\nof level empty", 3)
        self.assert_wrong(head + "of deeper empty\nof deeper filled", 3)
        self.assert_wrong(head + "a level empty\nb level empty\nx ends a\nx ends b", 5)
        self.assert_wrong(head + "lp closed rb\nlp closed rp", 3)

    def test_sorts_out_of_order(self):
        head = "deep joins\ngap joins\n"
        self.assert_wrong(head + "a ends z\nz deeper empty", 3)
        self.assert_wrong(head + "a closed b\nz deeper empty", 3)
        self.assert_wrong(head + "z deeper empty\na closed b\nx ends z", 4)

    def test_words_that_begin_alike(self):
        book = Book({"a": FILLED, "aa": FILLED, "ab": FILLED})
        self.assertEqual(Book.read(book.text), book)
        self.assert_wrong("deep joins\ngap joins\naa deeper filled\na deeper filled", 3)


class TestNoBook(Reading):
    def test_too_many(self):
        openers = tuple(f"{word} deeper filled" for word in "abcde")
        enders = tuple(f"{word} ends a" for word in "fghi")
        brackets = tuple(f"{word} closed {word}{word}" for word in "jkl")
        self.assert_no_book(*openers)
        self.assert_no_book(*openers[:1], *enders)
        self.assert_no_book(*brackets)
        read = Book.read("\n".join(("deep joins", "gap joins") + openers[:4] + enders[:3] + brackets[:2]))
        self.assertEqual(str(read), "4 openers, 3 enders, 2 brackets, deep joins, gap joins")

    def test_doubled_words(self):
        self.assert_no_book("a deeper filled", "a ends a")
        self.assert_no_book("a deeper filled", "a closed b")
        self.assert_no_book("a deeper filled", "b closed a")
        self.assert_no_book("a deeper filled", "b ends a", "b closed c")
        self.assert_no_book("a closed a")
        self.assert_no_book("a closed b", "b closed c")

    def test_enders_of_no_opener(self):
        self.assert_no_book("a ends b")
        self.assert_no_book("a deeper filled", "b ends c")
        self.assert_no_book("a deeper filled", "b ends a", "c ends b")

    def test_a_wrong_line_behind_what_makes_no_book(self):
        self.assert_wrong("deep joins\ngap joins\na ends b\na ends c", 3)
        self.assert_wrong("deep joins\ngap joins\na closed a\n", 3)


if __name__ == "__main__":
    unittest.main()
