"""The order of books: [12.1] to [12.3] and what stands under stage 12."""

import inspect
import itertools
import random
import unittest

from offside.base.books import DEPTHS, JOINTS, NEEDS, Book
from offside.base.texts import Text
from offside.book.order import (do_agree, does_extend, greatest_books, is_parting, least_books, parting_text,
                                reading_so, variants)
from offside.errors import InvalidBook, InvalidOperation, InvalidRow, TooMany
from offside.read.reading import Reading
from tests import naive
from tests.values import Refusing, hs_book, not_of, odd_values, py_book, random_book, random_text, ya_book

KINDS = tuple(itertools.product(DEPTHS, NEEDS))
POOL = ("a", "b", "c", "d")


def small_book(chance):
    """A book with some of four words."""
    words = list(POOL)
    chance.shuffle(words)
    openers = {word: chance.choice(KINDS) for word in words[:chance.randint(0, 2)]}
    rest = words[len(openers):]
    enders = {word: chance.choice(sorted(openers)) for word in rest[:chance.randint(0, 1)]} if openers else {}
    rest = rest[len(enders):]
    brackets = {rest[0]: rest[1]} if len(rest) > 1 and chance.random() < .5 else {}
    return Book(openers, enders, brackets, deep=chance.choice(JOINTS), gap=chance.choice(JOINTS))


def changed_book(chance, book):
    """A book that differs in some settings."""
    openers = {word: chance.choice((book[word], chance.choice(KINDS))) for word in book.openers}
    enders = {word: chance.choice((book[word], chance.choice(sorted(openers)))) for word in book.enders}
    return Book(openers, enders, book.brackets, deep=chance.choice(JOINTS), gap=chance.choice((book.gap,) + JOINTS))


def row_of(book, lines):
    parts, fault, _, _ = naive.read(book, lines)
    return parts if fault is None else None


def parts(one, other, lines):
    """Whether the other book reads the lines, and the first one does not read them with this row."""
    row = row_of(other, lines)
    return row is not None and row_of(one, lines) != row


def splits(total, many):
    """The ways to give so many lines so many words in all, one at least."""
    if many == 1:
        return [(total,)]
    return [(first,) + rest for first in range(1, total - many + 2) for rest in splits(total - first, many - 1)]


def least_parting(one, other):
    """The number of lines and of words, and the columns of the least text that parts two books: by force."""
    words = sorted(set(one.words + other.words)) + ["x"]
    for many, most in ((1, 3), (2, 3), (3, 3)):
        for total in range(many, most + 1):
            for columns in itertools.product(range(3), repeat=many):
                for sizes in splits(total, many):
                    for told in itertools.product(*[itertools.product(words, repeat=size) for size in sizes]):
                        if parts(one, other, list(zip(columns, told))):
                            return many, total, columns
    return None


class TestOrder(Refusing):
    def check_pair(self, one, other):
        """What is told of two books beside all short texts."""
        force = least_parting(one, other)
        found = parting_text(one, other)
        self.assertIs(does_extend(one, other), force is None)
        if force is None:
            self.assertIsNone(found)
        else:
            self.assertEqual((len(found), sum(len(words) for words in found.words), found.columns), force)
            self.assertTrue(parts(one, other, found.lines))
            self.assertIs(is_parting(one, other, found), True)
        return force

    def test_pairs_that_differ_in_settings(self):
        chance = random.Random(121)
        kinds = set()
        for _ in range(100):
            one = small_book(chance)
            other = changed_book(chance, one)
            kinds.add(self.check_pair(one, other))
        self.assertLessEqual({None, (1, 1, (0,)), (1, 1, (1,)), (2, 2, (0, 0)), (3, 3, (0, 2, 1))}, kinds)

    def test_pairs_that_differ_in_words(self):
        chance = random.Random(122)
        for _ in range(100):
            self.check_pair(small_book(chance), small_book(chance))

    def test_an_opener_alone(self):
        for kind, other_kind in itertools.product(KINDS, repeat=2):
            one, other = Book({"a": kind}), Book({"a": other_kind})
            fits = {("deeper", "filled"): KINDS, ("deeper", "empty"): (("deeper", "empty"),),
                    ("level", "filled"): (("level", "filled"), ("level", "empty")),
                    ("level", "empty"): (("level", "empty"),)}
            self.assertIs(does_extend(one, other), kind in fits[other_kind])
            self.check_pair(one, other)

    def test_rules_alone(self):
        for openers in ({}, {"a": ("deeper", "filled")}):
            for one, other in itertools.product(itertools.product(JOINTS, repeat=2), repeat=2):
                books = [Book(openers, deep=deep, gap=gap) for deep, gap in (one, other)]
                expected = one[0] in ("joins", other[0]) and (one[1] in ("joins", other[1]) or not openers)
                self.assertIs(does_extend(*books), expected)
                self.check_pair(*books)

    def test_roles_and_partners(self):
        books = [Book({"o": kind, "p": kind}, {"e": ender}, {"l": closer}) for kind in KINDS for ender in "op"
                 for closer in "rs"]
        books += [book.without("e") for book in books[:4]] + [book.without("l") for book in books[:4]]
        books += [Book({"e": KINDS[0], "p": KINDS[0]}, {"o": "e"}, {"l": "r"}), Book({}, {}, {"r": "l"}), Book(),
                  Book({"l": KINDS[0], "r": KINDS[0]})]
        for one, other in itertools.product(books[::3] + books[-8:], repeat=2):
            self.check_pair(one, other)

    def test_what_a_single_line_tells(self):
        told = [(Book(), Book({"a": ("deeper", "filled")}), (2, 2, (0, 1))),
                (Book(), Book({"a": ("level", "filled")}), (2, 2, (0, 0))),
                (Book({"a": ("level", "filled")}), Book(), (1, 1, (0,))),
                (Book(), Book({}, {}, {"l": "r"}), (2, 2, (0, 0))),
                (Book({"a": KINDS[0]}, {"b": "a"}), Book({"a": KINDS[0], "b": KINDS[0]}), (1, 2, (0,))),
                (Book({"a": KINDS[0]}), Book({"a": KINDS[0]}, {"b": "a"}), (2, 3, (0, 1))),
                (Book(deep="breaks"), Book(deep="joins"), (1, 1, (1,)))]
        for one, other, expected in told:
            self.assertEqual(self.check_pair(one, other), expected)

    def test_books_with_many_words(self):
        chance = random.Random(123)
        one = Book({word: ("deeper", "filled") for word in "abcd"}, {word: "a" for word in "efg"}, {"h": "i", "j": "k"})
        names = {word: word * 2 for word in one.words}
        for other in (one.renamed(names), one.with_ender("g", "b"), one.joining(gap="joins")):
            for pair in ((one, other), (other, one)):
                found = parting_text(*pair)
                self.assertIs(is_parting(*pair, found) if found else does_extend(*pair), True)
        for _ in range(100):
            pair = random_book(chance), random_book(chance)
            found = parting_text(*pair)
            self.assertIs(is_parting(*pair, found) if found else does_extend(*pair), True)
        self.assertEqual(parting_text(one, one.joining(gap="joins")).columns, (0, 2, 1))

    def test_books_that_extend_read_alike(self):
        chance = random.Random(124)
        read = 0
        for _ in range(1500):
            other = random_book(chance)
            one = changed_book(chance, other)
            if does_extend(one, other):
                text = random_text(chance, other, chance.randint(1, 5), (0, 0, 1, 2, 3))
                row = row_of(other, text.lines)
                if row is not None:
                    self.assertEqual(Reading(one, text).parts, row)
                    read += 1
                self.assertIs(is_parting(one, other, text), False)
        self.assertGreater(read, 50)

    def test_agreeing(self):
        chance = random.Random(125)
        for _ in range(200):
            one = small_book(chance)
            other = changed_book(chance, one)
            self.assertIs(do_agree(one, other), does_extend(one, other) and does_extend(other, one))
            self.assertIs(do_agree(one, one), True)
        self.assertIs(do_agree(Book(gap="joins"), Book(gap="breaks")), True)
        self.assertIs(do_agree(py_book(), py_book().joining(gap="joins")), False)

    def test_values_that_part_nothing(self):
        one, other = py_book(), py_book().joining(gap="joins")
        good = Text((0, ("if",)), (2, ("a",)), (1, ("b",)))
        self.assertIs(is_parting(one, other, good), True)
        self.assertIs(is_parting(one, other, Text(*[(0, ("y",))] * 57) + good), True)
        for value in [Text((0, ("a",))), good + Text((9, ("a",))), good.part(0, 1), good.lines, None] + odd_values():
            self.assertIs(is_parting(one, other, value), False)
        self.assertIs(is_parting(other, one, good), False)
        # One book reads it with another row.
        level = ya_book().with_opener("key", "deeper", "empty")
        self.assertIs(is_parting(level, ya_book(), Text((0, ("key",)), (0, ("a",)))), True)

    def test_errors(self):
        for value in not_of(Book):
            for call in (does_extend, do_agree, parting_text, lambda one, other: is_parting(one, other, None)):
                self.assert_refused(InvalidBook, "no", call, value, None)
                self.assert_refused(InvalidBook, "no", call, value, py_book())
                self.assert_refused(InvalidBook, "no", call, py_book(), value)

    def test_names(self):
        told = {does_extend: "(one, other)", do_agree: "(one, other)", parting_text: "(one, other)",
                is_parting: "(one, other, value)", variants: "(book)", reading_so: "(book, readings)",
                least_books: "(books)", greatest_books: "(books)"}
        for call, parameters in told.items():
            self.assertEqual(str(inspect.signature(call)), parameters, call)


class TestVariants(Refusing):
    def test_all_of_them(self):
        for many in range(4):
            book = Book({word: KINDS[0] for word in "abc"[:many]}, {"e": "a"} if many else {}, {"l": "r"})
            found = variants(book)
            self.assertEqual(len(found), 4 ** many * 4)
            texts = [variant.text for variant in found]
            self.assertEqual([texts, len(set(texts))], [sorted(texts), len(texts)])
            for variant in found:
                self.assertEqual([list(variant.openers), variant.enders, variant.brackets],
                                 [list(book.openers), book.enders, book.brackets])
            self.assertIn(book, found)
        self.assertEqual(variants(Book()), (Book(), Book(gap="joins"), Book(deep="joins"),
                                            Book(deep="joins", gap="joins")))

    def test_errors(self):
        four = Book({word: KINDS[0] for word in "abcd"})
        self.assert_refused(TooMany, 256, variants, four)
        self.assert_refused(TooMany, 256, reading_so, four, ())
        self.assert_refused(InvalidRow, "no", reading_so, four, None)
        for value in not_of(Book):
            self.assert_refused(InvalidBook, "no", variants, value)
            self.assert_refused(InvalidBook, "no", reading_so, value, None)


class TestReadingSo(Refusing):
    def test_by_force(self):
        chance = random.Random(126)
        counts = set()
        for _ in range(60):
            book = small_book(chance)
            readings = []
            for _ in range(chance.randint(0, 4)):
                text = random_text(chance, book, chance.randint(0, 3), (0, 0, 1, 2))
                readings.append((text, row_of(chance.choice(variants(book)), text.lines)))
            found = reading_so(book, tuple(readings))
            self.assertEqual(found, tuple(variant for variant in variants(book)
                                          if all(row_of(variant, text.lines) == row for text, row in readings)))
            counts.add(len(found))
        self.assertGreater(len(counts), 5)

    def test_an_example(self):
        text = Text((0, ("key",)), (0, ("a",)))
        self.assertEqual(reading_so(ya_book(), ()), variants(ya_book()))
        found = reading_so(ya_book(), ((text, ((";", "key"), ("{", "a"), ("}",))),))
        self.assertEqual([len(found), {book["key"][0] for book in found}], [8, {"level"}])
        found = reading_so(ya_book(), ((text, None),))
        self.assertEqual({book["key"] for book in found}, {("deeper", "filled")})
        self.assertEqual(reading_so(ya_book(), ((text, None), (text.part(0, 0), None))), ())
        self.assertEqual(reading_so(ya_book(), ((text, (("a",), ("b",), ())),)), ())

    def test_what_is_no_reading(self):
        text = Text((0, ("a",)))
        row = ((";", "a"), ())
        for value in [[(text, row)], (text, row), ((text, row, None),), ((text,),), ((row, text),), ((row, None),), ((text, list(row)),),
                      ((text, row[:1]),), ((text, row + ((),)),), ((text, (("A",), ())),), ((text, row), None),
                      ((text, False),), ((text, ()),), ((text, "row"),), ([text, row],), ((text, [None]),),
                      ((text, (("a",), None)),)] + [value for value in odd_values() if value != ()]:
            self.assert_refused(InvalidRow, "no", reading_so, py_book(), value)
        for value in odd_values():
            if value is not None:
                self.assert_refused(InvalidRow, "no", reading_so, py_book(), ((text, value),))


class TestExtremes(Refusing):
    def test_by_force(self):
        chance = random.Random(127)
        for _ in range(60):
            book = small_book(chance)
            books = tuple(chance.choice(variants(book) + (hs_book(),)) for _ in range(chance.randint(0, 9)))
            least = [one for one in books if not any(does_extend(one, other) and not does_extend(other, one)
                                                     for other in books)]
            greatest = [one for one in books if not any(does_extend(other, one) and not does_extend(one, other)
                                                        for other in books)]
            self.assertEqual([least_books(books), greatest_books(books)], [tuple(least), tuple(greatest)])

    def test_alike_ones_stay(self):
        one, other = Book(gap="joins"), Book(gap="breaks")
        more = Book(deep="joins")
        books = (more, one, other, one)
        self.assertEqual([least_books(books), greatest_books(books)], [(one, other, one), (more,)])
        self.assertEqual([least_books(()), greatest_books(()), least_books((py_book(), hs_book()))],
                         [(), (), (py_book(), hs_book())])

    def test_all_variants(self):
        every = variants(Book({word: KINDS[0] for word in "abc"}))
        self.assertEqual(least_books(every), (Book({word: ("deeper", "filled") for word in "abc"}),))
        found = greatest_books(every)
        self.assertEqual([len(found), {(book.deep, book.gap) for book in found}], [8, {("joins", "joins")}])
        self.assertEqual({book[word] for book in found for word in "abc"}, {("deeper", "empty"), ("level", "empty")})

    def test_errors(self):
        for call in (least_books, greatest_books):
            for value in [[py_book()], (py_book(), None), py_book()] + [
                    value for value in odd_values() if value not in ((), (py_book(),))]:
                self.assert_refused(InvalidOperation, "no", call, value)


if __name__ == "__main__":
    unittest.main()
