"""Books: what they are made of, and what they tell: [0.8], [2.1] and the class Book."""

import inspect
import itertools
import unittest

from offside.base import books
from offside.base.books import Book
from offside.errors import InvalidBook, InvalidWord, UnknownWord
from tests.values import hs_book, nested, odd_values, py_book, ya_book

FILLED = ("deeper", "filled")
KINDS = tuple(itertools.product(("deeper", "level"), ("filled", "empty")))
WORDS = ("aa", "bb", "cc", "dd", "ee", "ff", "gg", "hh", "ii", "jj", "kk", "ll")


def openers_of(many):
    return {word: FILLED for word in WORDS[:many]}


def enders_of(many):
    return {word: "aa" for word in WORDS[4:4 + many]}


def brackets_of(many):
    return dict(zip(WORDS[7:7 + many], WORDS[9:9 + many]))


class TestConstants(unittest.TestCase):
    def test_their_values(self):
        found = (books.MAX_OPENERS, books.MAX_ENDERS, books.MAX_BRACKETS)
        self.assertEqual(found, (4, 3, 2))
        found = (books.DEPTHS, books.NEEDS, books.JOINTS)
        self.assertEqual(found, (("deeper", "level"), ("filled", "empty"), ("joins", "breaks")))


class TestExample(unittest.TestCase):
    def test_the_documents(self):
        hask = Book({"of": ("deeper", "empty"), "let": ("deeper", "empty")}, {"in": "let"}, deep="joins", gap="joins")
        found = [str(hask), hask.role("in"), hask.ended_by("let"), hask["in"], hask.words, hask.text.split("\n")]
        lines = ["deep joins", "gap joins", "let deeper empty", "of deeper empty", "in ends let"]
        expected = ["2 openers, 1 enders, 0 brackets, deep joins, gap joins", "ender", ("in",), "let"]
        self.assertEqual(found, expected + [("in", "let", "of"), lines])
        found = [hask.without("let").words, Book.read(hask.text) == hask, (hask - hask).words, "of" in hask,
                 hask.joining(gap="breaks").gap]
        self.assertEqual(found, [("of",), True, (), True, "breaks"])
        with self.assertRaises(InvalidBook):
            hask.with_ender("let", "of")


class TestInterface(unittest.TestCase):
    def test_parameters(self):
        expected = "(openers=None, enders=None, brackets=None, *, deep='breaks', gap='breaks')"
        self.assertEqual(str(inspect.signature(Book)), expected)
        told = {
            "role": "(self, word)", "ended_by": "(self, word)", "with_opener": "(self, word, depth, need)",
            "with_ender": "(self, word, opener)", "with_bracket": "(self, word, closer)",
            "without": "(self, word)", "joining": "(self, *, deep=None, gap=None)", "renamed": "(self, names)",
        }
        for name, parameters in told.items():
            self.assertEqual(str(inspect.signature(vars(Book)[name])), parameters, name)
        self.assertEqual(str(inspect.signature(Book.read)), "(text)")

    def test_deep_and_gap_are_keywords(self):
        with self.assertRaises(TypeError):
            Book({}, {}, {}, "joins")

    def test_tables_by_name(self):
        named = Book(brackets={"lp": "rp"}, enders={"in": "let"}, openers={"let": FILLED})
        self.assertEqual(named, Book({"let": FILLED}, {"in": "let"}, {"lp": "rp"}))


class TestConstruction(unittest.TestCase):
    def assert_none(self, *args, **more):
        with self.assertRaises(InvalidBook, msg=(args, more)):
            Book(*args, **more)

    def test_without_words(self):
        for book in (Book(), Book(None, None, None), Book({}, {}, {}), Book({}, None, {})):
            self.assertEqual([book.openers, book.enders, book.brackets, book.words], [{}, {}, {}, ()])
            self.assertEqual([book.deep, book.gap], ["breaks", "breaks"])

    def test_each_depth_and_need(self):
        for kind in KINDS:
            self.assertEqual(Book({"of": kind}).openers, {"of": kind})

    def test_each_joint(self):
        for deep, gap in itertools.product(("joins", "breaks"), repeat=2):
            book = Book(deep=deep, gap=gap)
            self.assertEqual((book.deep, book.gap), (deep, gap))

    def test_at_the_bounds(self):
        book = Book(openers_of(4), enders_of(3), brackets_of(2))
        self.assertEqual([len(book.openers), len(book.enders), len(book.brackets), len(book)], [4, 3, 2, 11])

    def test_beyond_the_bounds(self):
        self.assert_none({**openers_of(4), "zz": FILLED}, enders_of(3), brackets_of(2))
        self.assert_none(openers_of(4), {**enders_of(3), "zz": "aa"}, brackets_of(2))
        self.assert_none(openers_of(4), enders_of(3), {**brackets_of(2), "zz": "yy"})
        self.assert_none(openers_of(5))
        self.assert_none(openers_of(1), {"xx": "aa", "yy": "aa", "zz": "aa", "ww": "aa"})
        self.assert_none(None, None, {"lp": "rp", "lb": "rb", "lc": "rc"})

    def test_words_of_one_and_of_eight_letters(self):
        book = Book({"a": FILLED, "openeros": FILLED}, {"e": "a"}, {"b": "c", "brackets": "closings"})
        self.assertEqual(book.words, ("a", "b", "brackets", "c", "closings", "e", "openeros"))

    def test_what_is_no_word(self):
        for word in ("", "A", "Of", "nineabcde", "a b", "a1", 1, None, True, (), ("a",)):
            self.assert_none({word: FILLED})
            self.assert_none({"a": FILLED}, {word: "a"})
            self.assert_none(None, None, {word: "b"})
        for value in odd_values():
            self.assert_none({"of": FILLED}, {"in": value})
            self.assert_none(None, None, {"lp": value})

    def test_doubled_words(self):
        opener = {"a": FILLED, "b": FILLED}
        self.assert_none(opener, {"b": "a"})
        self.assert_none(opener, {"a": "a"})
        self.assert_none(opener, None, {"b": "c"})
        self.assert_none(opener, None, {"c": "b"})
        self.assert_none(opener, {"c": "a"}, {"c": "d"})
        self.assert_none(opener, {"c": "a"}, {"d": "c"})
        self.assert_none(None, None, {"a": "a"})
        self.assert_none(None, None, {"a": "b", "b": "c"})
        self.assert_none(None, None, {"a": "b", "b": "a"})
        self.assert_none(None, None, {"a": "c", "b": "c"})

    def test_enders_of_no_opener(self):
        for opener in ("c", "in", "lp", "rp", "out"):
            self.assert_none({"a": FILLED}, {"in": opener, "out": "a"}, {"lp": "rp"})
        self.assert_none(None, {"in": "let"})

    def test_several_enders_of_an_opener(self):
        book = Book({"a": FILLED, "b": FILLED}, {"e": "a", "d": "a", "c": "b"})
        self.assertEqual(book.enders, {"c": "b", "d": "a", "e": "a"})

    def test_depths_and_needs(self):
        wrong = [("filled", "deeper"), ("deeper", "deeper"), ("deep", "filled"), ("deeper", ""), ("deeper", None),
                 ("deeper",), ("deeper", "filled", "empty"), ["deeper", "filled"], "deeper filled",
                 (["deeper"], "filled"), ("deeper", ["filled"]), (("deeper", "filled"),), {"deeper": "filled"}]
        for kind in wrong + odd_values():
            self.assert_none({"of": kind})
            self.assert_none({"if": FILLED, "of": kind})
        for part in odd_values():
            self.assert_none({"of": (part, "filled")})
            self.assert_none({"of": ("deeper", part)})

    def test_tables_of_other_kinds(self):
        wrong = [value for value in odd_values() if value is not None]
        for value in wrong + ["abc", (("a", FILLED),), [("a", FILLED)], (("a", "b"),), nested("dict", 7)]:
            self.assert_none(value)
            self.assert_none({"b": FILLED}, value)
            self.assert_none({}, {}, value)

    def test_rules(self):
        for value in ["join", "Joins", "joins ", "break", "deep", ("joins",), ["breaks"]] + odd_values():
            self.assert_none(deep=value)
            self.assert_none(gap=value)

    def test_none_is_no_rule(self):
        self.assert_none(deep=None)
        self.assert_none(gap=None)


class TestNothingShared(unittest.TestCase):
    def test_order_of_dicts(self):
        entries = [("a", FILLED), ("b", ("level", "empty")), ("c", ("deeper", "empty"))]
        enders = [("x", "a"), ("y", "b"), ("z", "a")]
        brackets = [("l", "r"), ("m", "q")]
        expected = Book(dict(entries), dict(enders), dict(brackets))
        for some, others in itertools.product(itertools.permutations(entries), itertools.permutations(enders)):
            book = Book(dict(some), dict(others), dict(reversed(brackets)))
            self.assertEqual(book, expected)
            self.assertEqual(book.text, expected.text)
            self.assertEqual([list(book.openers), list(book.enders)], [["a", "b", "c"], ["x", "y", "z"]])
            self.assertEqual([list(book.brackets), book.ended_by("a")], [["l", "m"], ("x", "z")])

    def test_the_dicts_that_were_passed(self):
        openers, enders, brackets = {"of": FILLED, "let": FILLED}, {"in": "let"}, {"lp": "rp"}
        book = Book(openers, enders, brackets)
        self.assertEqual([list(openers), enders, brackets], [["of", "let"], {"in": "let"}, {"lp": "rp"}])
        text = book.text
        openers["if"] = ("level", "empty")
        openers["of"] = ("level", "empty")
        del enders["in"]
        brackets["lp"] = "xx"
        self.assertEqual([book.text, book.words], [text, ("in", "let", "lp", "of", "rp")])
        self.assertEqual([book["of"], book["lp"], book.ended_by("let")], [FILLED, "rp", ("in",)])

    def test_the_dicts_that_are_handed_out(self):
        book = hs_book()
        for name in ("openers", "enders", "brackets"):
            table = getattr(book, name)
            kept = dict(table)
            table["zz"] = "yy"
            del table[sorted(kept)[0]]
            self.assertEqual(getattr(book, name), kept)
            getattr(book, name).clear()
            self.assertEqual(getattr(book, name), kept)
        self.assertEqual([book, book.text, len(book)], [hs_book(), hs_book().text, 5])

    def test_none_is_kept_of_an_invalid_call(self):
        openers = {"of": FILLED, "let": ["deeper", "empty"]}
        with self.assertRaises(InvalidBook):
            Book(openers)
        self.assertEqual(openers, {"of": FILLED, "let": ["deeper", "empty"]})

    def test_properties_are_not_assigned(self):
        book = py_book()
        for name in ("openers", "enders", "brackets", "deep", "gap", "words", "text"):
            with self.assertRaises(AttributeError):
                setattr(book, name, getattr(Book(), name))
        self.assertEqual(book, py_book())


class TestWhatItTells(unittest.TestCase):
    def test_properties(self):
        book = hs_book()
        self.assertEqual(book.openers, {"let": ("deeper", "empty"), "of": ("deeper", "empty")})
        self.assertEqual([book.enders, book.brackets], [{"in": "let"}, {"lp": "rp"}])
        self.assertEqual([book.deep, book.gap], ["joins", "joins"])
        self.assertEqual(book.words, ("in", "let", "lp", "of", "rp"))
        self.assertEqual([py_book().deep, py_book().gap, ya_book().words], ["breaks", "breaks", ("key",)])

    def test_roles(self):
        found = [hs_book().role(word) for word in ("of", "let", "in", "lp", "rp", "do", "deep", "abcdefgh")]
        self.assertEqual(found, ["opener", "opener", "ender", "bracket", "closer", "plain", "plain", "plain"])
        self.assertEqual(Book().role("of"), "plain")

    def test_roles_of_what_is_no_word(self):
        for value in odd_values():
            with self.assertRaises(InvalidWord):
                hs_book().role(value)

    def test_enders_of_an_opener(self):
        book = Book({"a": FILLED, "b": FILLED}, {"z": "a", "d": "a", "c": "b"})
        self.assertEqual([book.ended_by("a"), book.ended_by("b"), hs_book().ended_by("of")], [("d", "z"), ("c",), ()])

    def test_enders_of_no_opener(self):
        for word in ("in", "lp", "rp", "do"):
            with self.assertRaises(UnknownWord) as caught:
                hs_book().ended_by(word)
            self.assertEqual(caught.exception.asked, word)
        for value in odd_values():
            with self.assertRaises(InvalidWord):
                hs_book().ended_by(value)

    def test_index(self):
        book = hs_book().with_opener("of", "level", "filled")
        found = [book["of"], book["let"], book["in"], book["lp"], book["rp"]]
        self.assertEqual(found, [("level", "filled"), ("deeper", "empty"), "let", "rp", "lp"])

    def test_index_of_other_values(self):
        for value in odd_values() + ["do", "a", "deep", b"of", 0, -1]:
            with self.assertRaises(UnknownWord) as caught:
                hs_book()[value]
            self.assertEqual(caught.exception.asked, value)

    def test_in(self):
        book = hs_book()
        for word in ("in", "let", "lp", "of", "rp"):
            self.assertIs(word in book, True)
        for value in odd_values() + ["do", "a", "deeper", "joins", ("of",), ["of"]]:
            self.assertIs(value in book, False)

    def test_len_and_iteration(self):
        self.assertEqual([len(hs_book()), len(ya_book()), len(Book())], [5, 1, 0])
        self.assertEqual([list(hs_book()), list(Book())], [["in", "let", "lp", "of", "rp"], []])
        book = hs_book()
        self.assertEqual([list(book), list(book)], [list(book.words), list(book.words)])

    def test_str(self):
        self.assertEqual(str(py_book()), "2 openers, 0 enders, 1 brackets, deep breaks, gap breaks")
        self.assertEqual(str(hs_book()), "2 openers, 1 enders, 1 brackets, deep joins, gap joins")
        book = Book(openers_of(4), enders_of(3), brackets_of(2), deep="joins")
        self.assertEqual(str(book), "4 openers, 3 enders, 2 brackets, deep joins, gap breaks")
        self.assertEqual(str(Book(gap="joins")), "0 openers, 0 enders, 0 brackets, deep breaks, gap joins")


class TestEquality(unittest.TestCase):
    def test_equal_books(self):
        self.assertTrue(py_book() == py_book())
        self.assertFalse(py_book() != py_book())
        self.assertTrue(Book() == Book({}, {}, {}))
        turned = Book({"def": FILLED, "if": FILLED}, {}, {"lp": "rp"})
        self.assertTrue(py_book() == turned)

    def test_each_difference(self):
        near = [Book({"a": FILLED}, {"b": "a"}, {"c": "d"}), Book({"a": ("level", "filled")}, {"b": "a"}, {"c": "d"}),
                Book({"a": ("deeper", "empty")}, {"b": "a"}, {"c": "d"}), Book({"a": FILLED}, {}, {"c": "d"}),
                Book({"a": FILLED}, {"b": "a"}, {"d": "c"}), Book({"a": FILLED}, {"b": "a"}, {}),
                Book({"a": FILLED}, {"b": "a"}, {"c": "e"}), Book({"a": FILLED}, {"e": "a"}, {"c": "d"}),
                Book({"a": FILLED}, {"b": "a"}, {"c": "d"}, deep="joins"),
                Book({"a": FILLED}, {"b": "a"}, {"c": "d"}, gap="joins")]
        for one, other in itertools.permutations(near, 2):
            self.assertIs(one == other, False)
            self.assertIs(one != other, True)
        self.assertTrue(all(book == Book.read(book.text) for book in near))

    def test_the_opener_of_an_ender(self):
        openers = {"a": FILLED, "b": FILLED}
        self.assertNotEqual(Book(openers, {"c": "a"}), Book(openers, {"c": "b"}))

    def test_other_values(self):
        for value in odd_values():
            if not isinstance(value, Book):
                self.assertIs(hs_book() == value, False)
                self.assertIs(hs_book() != value, True)
                self.assertIs(value == hs_book(), False)
        self.assertIs(hs_book() == hs_book().text, False)
        self.assertIs(hs_book() == hs_book().words, False)


if __name__ == "__main__":
    unittest.main()
