"""Integers, words, columns, lines and signs: [0.1], [0.5], [0.7], [0.10]."""

import string
import unittest

from offside.base import words
from offside.base.words import is_column, is_integer, is_line, is_signs, is_word
from tests.values import SIXTY, SIXTY_ONE, odd_values, py_book


class TestConstants(unittest.TestCase):
    def test_their_values(self):
        found = (words.MAX_LETTERS, words.MAX_COLUMN, words.MAX_WORDS, words.GROUND, words.SIGNS)
        self.assertEqual(found, (8, 199, 6, -1, ("{", "}", ";")))


class TestExample(unittest.TestCase):
    def test_the_documents(self):
        found = [is_word("do"), is_word("Do"), is_column(199), is_column(200), is_line((4, ("a", "of"))),
                 is_line((4, ())), is_signs(("{", "a", "}"))]
        self.assertEqual(found, [True, False, True, False, True, False, True])


class Judging(unittest.TestCase):
    """Compares with `is`, as only True and False themselves are right."""

    def assert_each(self, judge, values, expected):
        for value in values:
            self.assertIs(judge(value), expected, (judge, value))


class TestIsInteger(Judging):
    def test_integers(self):
        self.assert_each(is_integer, (0, 1, -1, 199, 200, 10 ** 59, SIXTY, -SIXTY), True)

    def test_more_than_sixty_digits(self):
        self.assert_each(is_integer, (SIXTY_ONE, -SIXTY_ONE, 10 ** 99, -10 ** 99, 10 ** 100 - 1), False)

    def test_booleans(self):
        self.assert_each(is_integer, (True, False), False)

    def test_other_kinds(self):
        self.assert_each(is_integer, (None, "", "1", "7" * 60, (), (1,), [1], {1: 1}, py_book()), False)


class TestIsWord(Judging):
    def test_words(self):
        self.assert_each(is_word, ("a", "z", "do", "abcdefgh", "zzzzzzzz"), True)
        self.assert_each(is_word, string.ascii_lowercase, True)

    def test_lengths(self):
        self.assert_each(is_word, ("", "abcdefghi", "a" * 9, "a" * 9000), False)

    def test_other_characters(self):
        others = [chr(code) for code in range(128) if chr(code) not in string.ascii_lowercase]
        self.assert_each(is_word, others, False)
        self.assert_each(is_word, ["a" + other for other in others], False)
        self.assert_each(is_word, [other + "a" for other in others], False)

    def test_letters_of_other_alphabets(self):
        self.assert_each(is_word, ("\u00e4", "a\u00df", "\u03b1", "\u0430", "a\u0301"), False)

    def test_other_kinds(self):
        self.assert_each(is_word, odd_values() + [("a",), b"a"], False)


class TestIsColumn(Judging):
    def test_columns(self):
        self.assert_each(is_column, range(200), True)

    def test_beyond_the_bounds(self):
        self.assert_each(is_column, (-1, -2, 200, 201, SIXTY, -SIXTY, SIXTY_ONE, -SIXTY_ONE), False)

    def test_booleans(self):
        self.assert_each(is_column, (True, False), False)

    def test_other_kinds(self):
        self.assert_each(is_column, (None, "", "4", "a", (), (4,), [4], {4: 4}, py_book()), False)


class TestIsLine(Judging):
    def test_lines(self):
        self.assert_each(is_line, ((0, ("a",)), (199, ("a",)), (4, ("a", "of")), (4, ("a",) * 6)), True)

    def test_numbers_of_words(self):
        self.assert_each(is_line, ((4, ()), (4, ("a",) * 7), (4, ("a",) * 60)), False)

    def test_columns(self):
        wrong = (-1, 200, SIXTY_ONE, True, False, None, "4", (4,), [4], py_book())
        self.assert_each(is_line, [(column, ("a",)) for column in wrong], False)

    def test_words(self):
        self.assert_each(is_line, [(4, (word,)) for word in odd_values()], False)
        self.assert_each(is_line, [(4, ("a", word)) for word in odd_values()], False)
        self.assert_each(is_line, [(4, (word, "a")) for word in odd_values()], False)

    def test_what_should_be_a_tuple(self):
        self.assert_each(is_line, ((4, ["a"]), (4, "a"), (4, {"a": 1}), [4, ("a",)], {4: ("a",)}, "4a"), False)

    def test_numbers_of_items(self):
        self.assert_each(is_line, ((), (4,), (("a",),), (4, ("a",), ()), (4, ("a",), 4), (4, "a", "b")), False)

    def test_other_kinds(self):
        self.assert_each(is_line, odd_values(), False)
        self.assert_each(is_line, [(value, value) for value in odd_values()], False)


class TestIsSigns(Judging):
    def test_signs(self):
        self.assert_each(is_signs, ((), ("{",), ("}",), (";",), ("a",), ("abcdefgh",)), True)
        self.assert_each(is_signs, (("{", "a", "}"), (";", "def"), ("}",) * 70, ("a",) * 70), True)

    def test_what_is_no_sign(self):
        near = ["{}", "{ ", ":", ",", "(", "-", "[", "{;}", b"{"]
        for value in near + odd_values():
            self.assert_each(is_signs, ((value,), ("a", value), (value, ";")), False)
        self.assert_each(is_signs, ((("a",),), (("{",), ("}",))), False)

    def test_other_kinds(self):
        self.assert_each(is_signs, ("", "{", "a", "{a}", ["{"], [], {}, {"{": 1}, None, 0, True, py_book()), False)


class TestNothingIsChanged(unittest.TestCase):
    def test_lists_and_dicts(self):
        listed, keyed = ["a", ["b"]], {"a": ["b"]}
        for judge in (is_integer, is_word, is_column, is_line, is_signs):
            for value in (listed, keyed, (4, (listed, keyed)), (listed,)):
                self.assertIs(judge(value), False)
        self.assertEqual([listed, keyed], [["a", ["b"]], {"a": ["b"]}])


if __name__ == "__main__":
    unittest.main()
