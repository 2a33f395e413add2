"""The changes of a book, and books put together and taken apart."""

import itertools
import unittest

from offside.base.books import Book
from offside.errors import InvalidBook, InvalidOperation, UnknownWord
from tests.values import hs_book, odd_values, py_book, ya_book

FILLED = ("deeper", "filled")
EMPTY = ("deeper", "empty")
LEVEL = ("level", "empty")


def wide_book():
    """A book at all bounds: a has two enders, b has one, c and d have none."""
    openers = {"a": FILLED, "b": EMPTY, "c": LEVEL, "d": FILLED}
    return Book(openers, {"e": "a", "f": "b", "g": "a"}, {"l": "r", "m": "q"}, deep="joins")


def small_books():
    """Books in which a word has each role, with and without what depends on it."""
    books = [Book(), py_book(), hs_book(), ya_book(), wide_book()]
    openers = ({}, {"a": FILLED}, {"a": LEVEL, "b": EMPTY})
    for table, brackets in itertools.product(openers, ({}, {"c": "d"}, {"c": "d", "e": "f"})):
        books.append(Book(table, {}, brackets))
        for word in table:
            books.append(Book(table, {"x": word}, brackets, gap="joins"))
            books.append(Book(table, {"x": word, "y": "a"}, brackets))
    return books


def tables(book):
    return book.openers, book.enders, book.brackets


class Changing(unittest.TestCase):
    def assert_refused(self, error, call, *args, **more):
        with self.assertRaises(error, msg=(args, more)) as caught:
            call(*args, **more)
        return caught.exception

    def assert_becomes(self, book, call, expected):
        """The call gives a book of the expected tables, or none if there is none; the old one stays."""
        text, told = book.text, tables(book)
        try:
            wanted = Book(*expected, deep=book.deep, gap=book.gap)
        except InvalidBook:
            self.assert_refused(InvalidBook, call)
        else:
            found = call()
            self.assertEqual(found, wanted)
            self.assertEqual(found.text, wanted.text)
        self.assertEqual([book.text, tables(book)], [text, told])

    def beside(self, book, word):
        return [{key: table[key] for key in table if key != word} for table in tables(book)]


class TestWithAWord(Changing):
    def test_with_opener(self):
        found = hs_book().with_opener("do", "level", "filled")
        self.assertEqual(found, Book({"of": EMPTY, "let": EMPTY, "do": ("level", "filled")}, {"in": "let"},
                                     {"lp": "rp"}, deep="joins", gap="joins"))

    def test_an_opener_that_there_is(self):
        found = hs_book().with_opener("let", "level", "filled")
        self.assertEqual([found["let"], found.ended_by("let"), len(found)], [("level", "filled"), ("in",), 5])
        self.assertEqual(wide_book().with_opener("a", "level", "empty").enders, wide_book().enders)

    def test_an_opener_of_another_role(self):
        self.assertEqual(hs_book().with_opener("in", "deeper", "empty").enders, {})
        found = hs_book().with_opener("lp", "deeper", "empty")
        self.assertEqual([found.brackets, found.role("rp"), found.role("lp")], [{}, "plain", "opener"])
        self.assert_refused(InvalidBook, hs_book().with_opener, "rp", "deeper", "empty")

    def test_with_ender(self):
        self.assertEqual(hs_book().with_ender("fo", "of").enders, {"fo": "of", "in": "let"})
        self.assertEqual(hs_book().with_ender("in", "of").enders, {"in": "of"})
        self.assertEqual(hs_book().with_ender("out", "let").ended_by("let"), ("in", "out"))
        found = hs_book().with_ender("of", "let")
        self.assertEqual([found.openers, found.ended_by("let")], [{"let": EMPTY}, ("in", "of")])
        found = hs_book().with_ender("lp", "of")
        self.assertEqual([found.role("rp"), found["lp"], found.brackets], ["plain", "of", {}])

    def test_no_such_ender(self):
        for word, opener in (("let", "of"), ("of", "of"), ("in", "in"), ("rp", "of"), ("x", "in"), ("x", "lp"),
                             ("x", "rp"), ("x", "y"), ("x", "x")):
            self.assert_refused(InvalidBook, hs_book().with_ender, word, opener)

    def test_with_bracket(self):
        self.assertEqual(hs_book().with_bracket("lb", "rb").brackets, {"lb": "rb", "lp": "rp"})
        found = hs_book().with_bracket("lp", "pp")
        self.assertEqual([found.brackets, found.role("rp"), found.role("pp")], [{"lp": "pp"}, "plain", "closer"])
        self.assertEqual(hs_book().with_bracket("lp", "rp"), hs_book())
        self.assertEqual(hs_book().with_bracket("of", "fo").openers, {"let": EMPTY})
        self.assertEqual(hs_book().with_bracket("in", "ni").enders, {})

    def test_no_such_bracket(self):
        for word, closer in (("let", "x"), ("rp", "lp"), ("rp", "x"), ("x", "rp"), ("x", "lp"), ("x", "of"),
                             ("x", "in"), ("x", "x"), ("lp", "lp"), ("lp", "of"), ("of", "let")):
            self.assert_refused(InvalidBook, hs_book().with_bracket, word, closer)

    def test_beyond_the_bounds(self):
        book = wide_book()
        self.assert_refused(InvalidBook, book.with_opener, "x", "deeper", "filled")
        self.assert_refused(InvalidBook, book.with_ender, "x", "a")
        self.assert_refused(InvalidBook, book.with_bracket, "x", "y")
        self.assertEqual(book.with_opener("d", "level", "empty")["d"], LEVEL)
        self.assertEqual(book.with_ender("e", "d")["e"], "d")
        self.assertEqual(book.with_bracket("l", "x")["x"], "l")
        self.assertEqual(book, wide_book())

    def test_each_word_in_each_book(self):
        for book in small_books():
            pool = book.words + ("zz",)
            for word, told in itertools.product(pool, pool + ("yy",)):
                openers, enders, brackets = self.beside(book, word)
                self.assert_becomes(book, lambda: book.with_ender(word, told),
                                    (openers, {**enders, word: told}, brackets))
                self.assert_becomes(book, lambda: book.with_bracket(word, told),
                                    (openers, enders, {**brackets, word: told}))
                for kind in itertools.product(("deeper", "level"), ("filled", "empty")):
                    self.assert_becomes(book, lambda: book.with_opener(word, *kind),
                                        ({**openers, word: kind}, enders, brackets))

    def test_other_values(self):
        book = hs_book()
        for value in odd_values():
            self.assert_refused(InvalidBook, book.with_opener, value, "deeper", "filled")
            self.assert_refused(InvalidBook, book.with_opener, "x", value, "filled")
            self.assert_refused(InvalidBook, book.with_opener, "x", "deeper", value)
            self.assert_refused(InvalidBook, book.with_ender, value, "let")
            self.assert_refused(InvalidBook, book.with_ender, "x", value)
            self.assert_refused(InvalidBook, book.with_bracket, value, "x")
            self.assert_refused(InvalidBook, book.with_bracket, "x", value)
            self.assert_refused(InvalidBook, book.with_opener, value, value, value)
        self.assertEqual(book, hs_book())


class TestWithout(Changing):
    def test_each_role(self):
        book = wide_book()
        lost = {"a": "aeg", "b": "bf", "c": "c", "e": "e", "f": "f", "l": "lr", "r": "lr", "m": "mq", "q": "mq"}
        for word, words in lost.items():
            expected = [{key: table[key] for key in table if key not in words} for table in tables(book)]
            self.assert_becomes(book, lambda: book.without(word), expected)
            self.assertEqual(book.without(word).words, tuple(key for key in book.words if key not in words))

    def test_the_last_word(self):
        self.assertEqual(ya_book().without("key"), Book())
        self.assertEqual(Book({"let": FILLED}, {"in": "let"}, gap="joins").without("let"), Book(gap="joins"))

    def test_words_without_a_role(self):
        for value in odd_values() + ["x", "a", "deeper", ("of",), ["of"]]:
            self.assertEqual(self.assert_refused(UnknownWord, hs_book().without, value).asked, value)
        self.assertEqual(self.assert_refused(UnknownWord, Book().without, "of").asked, "of")

    def test_twice(self):
        found = hs_book().without("let")
        self.assert_refused(UnknownWord, found.without, "let")
        self.assert_refused(UnknownWord, found.without, "in")


class TestJoining(Changing):
    def test_other_words(self):
        for deep, gap in itertools.product((None, "joins", "breaks"), repeat=2):
            for book in small_books():
                found = book.joining(deep=deep, gap=gap)
                self.assertEqual([found.deep, found.gap], [deep or book.deep, gap or book.gap])
                self.assertEqual(tables(found), tables(book))

    def test_one_of_both(self):
        self.assertEqual(py_book().joining(deep="joins").text.split("\n")[:2], ["deep joins", "gap breaks"])
        self.assertEqual(py_book().joining(gap="joins").text.split("\n")[:2], ["deep breaks", "gap joins"])
        self.assertEqual(py_book().joining(), py_book())

    def test_the_old_book_stays(self):
        book = py_book()
        book.joining(deep="joins", gap="joins")
        self.assertEqual([book.deep, book.gap], ["breaks", "breaks"])

    def test_other_values(self):
        for value in odd_values() + ["join", "Joins", ("joins",)]:
            if value is not None:
                self.assert_refused(InvalidBook, hs_book().joining, deep=value)
                self.assert_refused(InvalidBook, hs_book().joining, gap=value)
                self.assert_refused(InvalidBook, hs_book().joining, deep="joins", gap=value)

    def test_keywords_only(self):
        self.assert_refused(TypeError, hs_book().joining, "joins")


class TestRenamed(Changing):
    def test_other_names(self):
        names = {"of": "do", "let": "letrec", "in": "then", "lp": "lb", "rp": "rb"}
        found = hs_book().renamed(names)
        self.assertEqual(found, Book({"do": EMPTY, "letrec": EMPTY}, {"then": "letrec"}, {"lb": "rb"},
                                     deep="joins", gap="joins"))
        self.assertEqual(names, {"of": "do", "let": "letrec", "in": "then", "lp": "lb", "rp": "rb"})

    def test_names_that_change_places(self):
        names = {"of": "let", "let": "in", "in": "of", "lp": "rp", "rp": "lp"}
        found = hs_book().renamed(names)
        self.assertEqual(found, Book({"let": EMPTY, "in": EMPTY}, {"of": "in"}, {"rp": "lp"},
                                     deep="joins", gap="joins"))

    def test_there_and_back(self):
        for book in small_books():
            names = {word: "x" + word for word in book.words}
            back = {"x" + word: word for word in book.words}
            self.assertEqual(book.renamed(names).renamed(back), book)
            self.assertEqual(book.renamed({word: word for word in book.words}), book)
            self.assertEqual(list(book.renamed(names).openers), sorted("x" + word for word in book.openers))

    def test_an_empty_book(self):
        self.assertEqual(Book(gap="joins").renamed({}), Book(gap="joins"))
        self.assert_refused(InvalidOperation, Book().renamed, {"a": "b"})

    def test_ascending_by_the_new_names(self):
        found = Book({"a": FILLED, "b": LEVEL}).renamed({"a": "y", "b": "x"})
        self.assertEqual([list(found.openers), found.words], [["x", "y"], ("x", "y")])

    def test_no_such_dict(self):
        book = Book({"a": FILLED, "b": FILLED})
        wrong = [{}, {"a": "x"}, {"b": "x"}, {"a": "x", "b": "x"}, {"a": "b", "b": "b"}, {"a": "x", "b": "Y"},
                 {"a": "x", "b": ""}, {"a": "x", "b": "y", "c": "z"}, {"a": "x", "b": "x", "c": "y"},
                 {"a": "x", "b": "y", "c": "y"}, {"a": "x", "c": "y"}, {"a": "x", 1: "y"},
                 [("a", "x"), ("b", "y")], (("a", "x"), ("b", "y")), ["a", "b"], "ab"]
        for names in wrong + odd_values():
            self.assert_refused(InvalidOperation, book.renamed, names)
        for value in odd_values():
            self.assert_refused(InvalidOperation, book.renamed, {"a": value, "b": "x"})
            self.assert_refused(InvalidOperation, book.renamed, {"a": value, "b": value})
        self.assertEqual(book, Book({"a": FILLED, "b": FILLED}))

    def test_names_that_are_changed_later(self):
        names = {"key": "sleutel"}
        book = ya_book().renamed(names)
        names["key"] = "clef"
        self.assertEqual(book.words, ("sleutel",))


class TestTogether(Changing):
    def test_words_of_both(self):
        one = Book({"a": FILLED}, {"e": "a"}, {"l": "r"})
        other = Book({"b": LEVEL}, {"f": "b"}, {"m": "q"})
        both = Book({"a": FILLED, "b": LEVEL}, {"e": "a", "f": "b"}, {"l": "r", "m": "q"})
        self.assertEqual([one | other, other | one], [both, both])
        self.assertEqual([list((other | one).openers), (other | one).text], [["a", "b"], both.text])
        self.assertEqual([one.words, other.words], [("a", "e", "l", "r"), ("b", "f", "m", "q")])

    def test_with_itself_and_with_an_empty_one(self):
        for book in small_books():
            empty = Book(deep=book.deep, gap=book.gap)
            self.assertEqual([book | book, book | empty, empty | book], [book, book, book])

    def test_shared_words(self):
        one = Book({"a": FILLED, "b": LEVEL}, {"e": "a"}, {"l": "r"})
        other = Book({"a": FILLED, "c": LEVEL}, {"e": "a", "f": "a"}, {"l": "r", "m": "q"})
        self.assertEqual((one | other).words, ("a", "b", "c", "e", "f", "l", "m", "q", "r"))
        self.assertEqual((one | other).ended_by("a"), ("e", "f"))

    def test_unlike_roles(self):
        alone = [Book({"a": FILLED}), Book({"b": FILLED}, {"a": "b"}), Book(None, None, {"a": "b"}),
                 Book(None, None, {"b": "a"})]
        for one, other in itertools.permutations(alone, 2):
            self.assert_refused(InvalidOperation, lambda: one | other)

    def test_unlike_partners(self):
        unlike = [(Book({"a": FILLED}), Book({"a": EMPTY})), (Book({"a": EMPTY}), Book({"a": LEVEL})),
                  (Book({"a": FILLED, "b": FILLED}, {"e": "a"}), Book({"a": FILLED, "b": FILLED}, {"e": "b"})),
                  (Book(None, None, {"l": "r"}), Book(None, None, {"l": "q"})),
                  (Book(None, None, {"l": "r"}), Book(None, None, {"m": "r"}))]
        for one, other in unlike:
            self.assert_refused(InvalidOperation, lambda: one | other)
            self.assert_refused(InvalidOperation, lambda: other | one)

    def test_unlike_rules(self):
        for name in ("deep", "gap"):
            one, other = Book(**{name: "joins"}), Book({"a": FILLED})
            self.assert_refused(InvalidOperation, lambda: one | other)
            self.assert_refused(InvalidOperation, lambda: other | one)

    def test_too_many_words(self):
        other = Book({"x": FILLED}, deep="joins")
        self.assert_refused(InvalidBook, lambda: wide_book() | other)
        self.assert_refused(InvalidBook, lambda: wide_book() | Book({"a": FILLED}, {"x": "a"}, deep="joins"))
        self.assert_refused(InvalidBook, lambda: wide_book() | Book(None, None, {"x": "y"}, deep="joins"))
        self.assertEqual(wide_book() | Book({"a": FILLED}, {"e": "a"}, deep="joins"), wide_book())

    def test_an_unlike_word_comes_before_too_many(self):
        self.assert_refused(InvalidOperation, lambda: wide_book() | Book({"a": EMPTY, "x": FILLED}, deep="joins"))
        self.assert_refused(InvalidOperation, lambda: wide_book() | Book({"x": FILLED}))

    def test_other_operands(self):
        for value in odd_values():
            if not isinstance(value, Book):
                self.assert_refused(InvalidOperation, lambda: py_book() | value)
                self.assert_refused(InvalidOperation, lambda: value | py_book())


class TestTakenApart(Changing):
    def test_words_of_the_other_one(self):
        for book, other in itertools.product(small_books(), repeat=2):
            expected = book
            for word in other.words:
                if word in expected:
                    expected = expected.without(word)
            text, others = book.text, other.text
            self.assertEqual(book - other, expected)
            self.assertEqual([book.text, other.text], [text, others])

    def test_examples(self):
        self.assertEqual((hs_book() - hs_book()).text, "deep joins\ngap joins")
        self.assertEqual((hs_book() - Book({"let": LEVEL})).words, ("lp", "of", "rp"))
        self.assertEqual((hs_book() - Book({"rp": LEVEL})).words, ("in", "let", "of"))
        self.assertEqual((hs_book() - Book({"in": LEVEL})).words, ("let", "lp", "of", "rp"))
        self.assertEqual([hs_book() - ya_book(), hs_book() - Book()], [hs_book(), hs_book()])
        self.assertEqual((py_book() - hs_book()).words, ("def", "if"))

    def test_other_operands(self):
        for value in odd_values() + ["of", ("of",), {"of": EMPTY}]:
            if not isinstance(value, Book):
                self.assert_refused(InvalidOperation, lambda: hs_book() - value)
                self.assert_refused(InvalidOperation, lambda: value - hs_book())

    def test_in_place(self):
        book = kept = hs_book()
        book -= Book({"of": LEVEL})
        book |= Book({"do": LEVEL}, deep="joins", gap="joins")
        self.assertEqual([book.words, kept], [("do", "in", "let", "lp", "rp"), hs_book()])


if __name__ == "__main__":
    unittest.main()
