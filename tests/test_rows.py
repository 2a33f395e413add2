"""Wanted rows and their demands: [8.1] to [8.3] and what stands under stage 8."""

import inspect
import itertools
import random
import unittest

from offside.base.books import Book
from offside.base.texts import Text
from offside.demand.rows import Wanted, first_impossible, is_demand, is_sign_rows
from offside.errors import Broken, Impossible, InvalidBook, InvalidNumber, InvalidRow, InvalidText
from offside.read.reading import Reading
from tests import naive
from tests.values import (SIXTY, Refusing, case_text, hs_book, kinds_of_books, loop_text, no_integers, not_of,
                          odd_values, py_book, random_book, random_text, ya_book)


def rich_book(deep="joins", gap="joins"):
    openers = {"o": ("deeper", "empty"), "p": ("level", "empty"), "f": ("deeper", "filled"), "g": ("level", "filled")}
    return Book(openers, {"e": "o"}, {"l": "r", "m": "n"}, deep=deep, gap=gap)


def words_of(*lines):
    return tuple(tuple(line.split()) for line in lines)


def row_of(*lines):
    """Rows of signs, told as strings; the last one is the end."""
    return tuple(tuple(line.split()) for line in lines)


def first_row(line):
    return ((line, -1, 0), (-1, line, -199))


def random_row(chance, book, words):
    """A row that is possible, by any of the cases, or None if none is found."""
    pile, waiting = [], ""
    row = []
    for index, line in enumerate(words):
        cases = naive.cases_of_line(book, pile, waiting, index, line)
        if not cases:
            return None
        signs, pile, waiting = chance.choice(cases)
        row.append(signs)
    end = naive.read_end(book, (pile, waiting))
    return None if isinstance(end, str) else tuple(row) + (end,)


def row_near(chance, row):
    """A row with a sign more, less or exchanged."""
    signs = [list(part) for part in row]
    part = chance.choice(signs)
    at = chance.randint(0, len(part))
    way = chance.randrange(3)
    if way == 0:
        part.insert(at, chance.choice("{};"))
    elif part and way == 1:
        del part[at - 1]
    elif part:
        part[at - 1] = chance.choice("{};x")
    return tuple(tuple(part) for part in signs)


class TestForms(unittest.TestCase):
    def test_sign_rows(self):
        good = [((),), ((), ()), (("{", "a", "}", ";"),), (("}",),) * 61, (("abcdefgh",) * 50,)]
        for value in good:
            self.assertIs(is_sign_rows(value), True)
        wrong = [(), (("}",),) * 62, [()], ([],), (("A",),), (("",),), (("a b",),), (("{}",),), (("{",), None), ("{",),
                 ((1,),), ((None,),), ((("{",),),), "{", ((True,),), ({},)]
        for value in wrong + [value for value in odd_values() if value not in ((("deeper", "filled"),),)]:
            self.assertIs(is_sign_rows(value), False, value)

    def test_demands(self):
        good = [(0, 0, 0), (-1, -1, 0), (59, -1, 199), (-1, 59, -199), (3, 3, 5), (59, 59, -199)]
        for value in good:
            self.assertIs(is_demand(value), True)
        wrong = [(60, 0, 0), (0, 60, 0), (-2, 0, 0), (0, -2, 0), (0, 0, 200), (0, 0, -200), (True, 0, 0), (0, False, 0),
                 (0, 0, True), (0, 0), (0, 0, 0, 0), [0, 0, 0], ("0", 0, 0), (0, None, 0), (0, 0, "0"), (0, 0, SIXTY),
                 (SIXTY, 0, 0), (0, 10 ** 99, 0), (0, 0, (0,)), ((0,), 0, 0)]
        for value in wrong + odd_values():
            self.assertIs(is_demand(value), False, value)

    def test_names(self):
        told = {is_sign_rows: "(value)", is_demand: "(value)", first_impossible: "(book, words, row)",
                Wanted: "(book, words, row)", Wanted.of: "(book, text)", Wanted.demands_of: "(self, index)",
                Wanted.is_read_by: "(self, columns)", Wanted.unmet: "(self, columns)"}
        for call, parameters in told.items():
            self.assertEqual(str(inspect.signature(call)), parameters, call)


class TestTable(unittest.TestCase):
    """The demands of each case, in the order of the table."""

    def assert_demands(self, book, words, row, *expected):
        """The demands of the last line behind those that each line has."""
        wanted = Wanted(book, words, row)
        last = len(words) - 1
        self.assertEqual(wanted.demands_of(last), first_row(last) + expected)
        together = sum((wanted.demands_of(at) for at in range(len(words))), ())
        self.assertEqual(wanted.demands, together)

    def test_blocks_that_begin(self):
        for word, least in (("o", 1), ("f", 1), ("p", 0), ("g", 0)):
            words, row = words_of(f"x {word}", "y"), row_of(f"; x {word}", "{ y", "}")
            self.assert_demands(rich_book(), words, row, (1, -1, least))
            words, row = words_of("x o", f"y {word}", "z"), row_of("; x o", f"{{ y {word}", "{ z", "} }")
            self.assert_demands(rich_book(), words, row, (2, 1, least))
            self.assert_demands(rich_book(), words_of(f"x l {word}", "y r"), row_of(f"; x l {word}", "{ y } r", ""))

    def test_empty_blocks(self):
        for word, least in (("o", 0), ("p", 1)):
            words, row = words_of(f"x {word}", "y"), row_of(f"; x {word}", "{ } ; y", "")
            self.assert_demands(rich_book(), words, row, (-1, 1, least), (1, -1, 0), (-1, 1, 0))
            words, row = words_of("x o", f"y {word}", "z"), row_of("; x o", f"{{ y {word}", "{ } } ; z", "")
            self.assert_demands(rich_book(), words, row, (1, 2, least), (1, 2, 1), (2, -1, 0), (-1, 2, 0))
            row = row_of("; x o", f"{{ y {word}", "{ } } z", "")
            self.assert_demands(rich_book(), words, row, (1, 2, least), (1, 2, 1), (2, -1, 1))
            row = row_of("; x o", f"{{ y {word}", "{ } z", "}")
            self.assert_demands(rich_book(), words, row, (1, 2, least), (2, 1, 1))
            words = words_of(f"x l {word}", "y r")
            self.assertEqual(first_impossible(rich_book(), words, row_of(f"; x l {word}", "{ } y r", "")), 1)
        words, row = words_of("x f", "y"), row_of("; x f", "{ } ; y", "")
        self.assertEqual(first_impossible(rich_book(), words, row), 1)

    def test_blocks_that_are_ended(self):
        words = words_of("x o", "y o", "z o", "u", "v")
        for ends, rest, more in ((1, "} }", ((3, 4, 1), (4, 2, 0), (2, 4, 0))),
                                 (2, "}", ((2, 4, 1), (4, 1, 0), (1, 4, 0))),
                                 (3, "", ((1, 4, 1), (4, -1, 0), (-1, 4, 0)))):
            row = row_of("; x o", "{ y o", "{ z o", "{ u", "} " * ends + "; v", rest)
            self.assert_demands(rich_book(), words, row, *more)
        row = row_of("; x o", "{ y o", "{ z o", "{ u", "} } v", "}")
        self.assert_demands(rich_book(), words, row, (2, 4, 1), (4, 1, 1))
        row = row_of("; x o", "{ y o", "{ z o", "{ u", "} } } } ; v", "")
        self.assertEqual(first_impossible(rich_book(), words, row), 4)

    def test_blocks_that_are_ended_to_a_bracket(self):
        words = words_of("x o", "y l o", "z o", "u", "v r")
        row = row_of("; x o", "{ y l o", "{ z o", "{ u", "} } v r", "}")
        self.assert_demands(rich_book("breaks", "breaks"), words, row, (2, 4, 1))
        row = row_of("; x o", "{ y l o", "{ z o", "{ u", "} ; v } r", "}")
        self.assert_demands(rich_book(), words, row, (3, 4, 1), (4, 2, 0), (2, 4, 0))
        row = row_of("; x o", "{ y l o", "{ z o", "{ u", "} } ; v r", "}")
        self.assertEqual(first_impossible(rich_book(), words, row), 4)
        row = row_of("; x o", "{ y l o", "{ z o", "{ u", "} } } ; v r", "")
        self.assertEqual(first_impossible(rich_book(), words, row), 4)

    def test_lines_that_join(self):
        self.assert_demands(rich_book(), words_of("x"), row_of("x", ""), (0, -1, 1))
        self.assert_demands(rich_book(), words_of("x"), row_of("; x", ""), (0, -1, 0), (-1, 0, 0))
        self.assert_demands(rich_book(), words_of("l", "x r"), row_of("; l", "x r", ""))
        words = words_of("x o", "y", "z")
        for deep, gap in itertools.product(("joins", "breaks"), repeat=2):
            found = first_impossible(rich_book(deep, gap), words, row_of("; x o", "{ y", "z", "}"))
            self.assertEqual(found, None if deep == "joins" else 2)
            found = first_impossible(rich_book(deep, gap), words, row_of("; x o", "{ y", "} z", ""))
            self.assertEqual(found, None if gap == "joins" else 2)

    def test_lines_that_begin_with_enders_or_closers(self):
        words = words_of("x o", "y", "e z")
        self.assert_demands(rich_book(), words, row_of("; x o", "{ y", "} e z", ""))
        self.assert_demands(rich_book(), words_of("x l p", "r"), row_of("; x l p", "{ } r", ""))
        self.assertEqual(first_impossible(rich_book(), words, row_of("; x o", "{ y", "; } e z", "")), 2)
        self.assertEqual(first_impossible(rich_book(), words_of("x l f", "r"), row_of("; x l f", "{ } r", "")), 1)
        self.assertEqual(first_impossible(rich_book(), words_of("e"), row_of("e", "")), 0)

    def test_ends(self):
        words = words_of("x o")
        self.assertIsNone(first_impossible(rich_book(), words, row_of("; x o", "{ }")))
        for end in ("", "}", "{", "{ } }", "} {", "x"):
            self.assertEqual(first_impossible(rich_book(), words, row_of("; x o", end)), 1)
        self.assertEqual(first_impossible(rich_book(), words_of("x l"), row_of("; x l", "")), 1)
        self.assertEqual(first_impossible(rich_book(), words_of("x f"), row_of("; x f", "{ }")), 1)
        self.assertIsNone(first_impossible(rich_book(), (), ((),)))
        self.assertEqual(first_impossible(rich_book(), (), (("}",),)), 0)

    def test_the_documents_row(self):
        wanted = Wanted.of(py_book(), loop_text())
        expected = (first_row(0) + ((0, -1, 0), (-1, 0, 0)) + first_row(1) + ((1, -1, 1),) + first_row(2) + ((2, 1, 1),)
                    + first_row(3) + ((2, 3, 1), (3, 1, 0), (1, 3, 0)))
        self.assertEqual(wanted.demands, expected)
        self.assertEqual(wanted.piles, ((), (), ((1, "def"),), ((1, "def"), (2, "if")), ((1, "def"),)))
        self.assertEqual(wanted.waiting, ("", "def", "if", "", ""))
        self.assertEqual([wanted.book, wanted.words, wanted.wanted],
                         [py_book(), loop_text().words, Reading(py_book(), loop_text()).row()])
        self.assertEqual([str(wanted), len(wanted)], ["4 lines, 15 demands", 4])

    def test_piles_with_brackets(self):
        words = words_of("x o", "y l m", "z n p", "u r o")
        wanted = Wanted(rich_book(), words, row_of("; x o", "{ y l m", "z n p", "{ u } r o", "{ } }"))
        self.assertEqual(wanted.piles, ((), (), ((1, "o"), (1, "l"), (1, "m")), ((1, "o"), (1, "l")), ((1, "o"),)))
        self.assertEqual(wanted.waiting, ("", "o", "", "p", "o"))

    def test_without_lines(self):
        wanted = Wanted(ya_book(), (), ((),))
        self.assertEqual([wanted.demands, wanted.piles, wanted.waiting, len(wanted), str(wanted)],
                         [(), ((),), ("",), 0, "0 lines, 0 demands"])
        self.assertEqual([wanted.is_read_by(()), wanted.unmet(())], [True, ()])


class TestColumns(unittest.TestCase):
    def assert_read_by(self, book, words, row, columns):
        """The row is read with just those of all small columns that meet its demands."""
        wanted = Wanted(book, words, row)
        told = (book.text, words, row)
        for chosen in itertools.product(columns, repeat=len(words)):
            parts, fault, _, _ = naive.read(book, list(zip(chosen, words)))
            self.assertIs(wanted.is_read_by(chosen), fault is None and parts == row, (told, chosen))
            unmet = wanted.unmet(chosen)
            self.assertEqual(unmet, tuple(at for at, demand in enumerate(wanted.demands)
                                          if (chosen + (0,))[demand[0]] < (chosen + (0,))[demand[1]] + demand[2]))

    def test_rows_as_they_are_read(self):
        chance = random.Random(31)
        for _ in range(600):
            book = random_book(chance)
            text = random_text(chance, book, chance.randint(0, 4), (0, 1, 2, 3))
            reading = Reading(book, text)
            if reading.fault is None:
                wanted = Wanted.of(book, text)
                self.assertEqual(wanted, Wanted(book, text.words, reading.row()))
                self.assertTrue(wanted.is_read_by(text.columns))
                self.assertEqual(wanted.waiting, tuple(waiting for _, waiting in reading.states))
                for at, (pile, _) in enumerate(reading.states):
                    told = [(-1 if word in book.brackets else text.columns[line], word)
                            for line, word in wanted.piles[at]]
                    self.assertEqual(tuple(told), pile)
                self.assert_read_by(book, text.words, reading.row(), range(5 if len(text) < 4 else 3))

    def test_rows_by_any_cases(self):
        chance = random.Random(32)
        without = 0
        for _ in range(800):
            book = random_book(chance)
            words = random_text(chance, book, chance.randint(0, 4), (0,)).words
            row = random_row(chance, book, words)
            if row is not None:
                self.assertIsNone(first_impossible(book, words, row))
                self.assert_read_by(book, words, row, range(len(words) + 1))
                wanted = Wanted(book, words, row)
                chosen = itertools.product(range(len(words) + 1), repeat=len(words))
                without += not any(wanted.is_read_by(columns) for columns in chosen)
        # Some rows that are possible are read with no columns.
        self.assertGreater(without, 5)

    def test_rows_near_them(self):
        chance = random.Random(33)
        impossible = 0
        for _ in range(3000):
            book = random_book(chance)
            text = random_text(chance, book, chance.randint(0, 4), (0, 1, 2))
            row = random_row(chance, book, text.words)
            if row is None:
                continue
            row = row_near(chance, row)
            expected = naive.first_impossible(book, text.words, row)
            self.assertEqual(first_impossible(book, text.words, row), expected, (book.text, text.words, row))
            if expected is None:
                self.assertEqual(Wanted(book, text.words, row).wanted, row)
            else:
                impossible += 1
                with self.assertRaises(Impossible) as caught:
                    Wanted(book, text.words, row)
                self.assertEqual(caught.exception.index, expected)
        self.assertGreater(impossible, 500)

    def test_a_row_that_is_read_with_no_columns(self):
        words, row = words_of("x p", "y"), row_of("; x p", "{ } ; y", "")
        self.assertIsNone(first_impossible(rich_book(), words, row))
        wanted = Wanted(rich_book(), words, row)
        for columns in itertools.product((0, 1, 199), repeat=2):
            self.assertFalse(wanted.is_read_by(columns))

    def test_unmet(self):
        wanted = Wanted.of(py_book(), loop_text())
        self.assertEqual([wanted.unmet((0, 4, 8, 4)), wanted.unmet((1, 4, 8, 4)), wanted.unmet((0, 0, 0, 0))],
                         [(), (3,), (6, 9, 12)])
        self.assertEqual([wanted.is_read_by((0, 198, 199, 198)), wanted.is_read_by((0, 199, 199, 199))], [True, False])

    def test_sixty_lines(self):
        lines = [(at * 3, ("x", "f")) for at in range(59)] + [(199, ("y",))]
        wanted = Wanted.of(rich_book(), Text(*lines))
        self.assertEqual([len(wanted), len(wanted.piles[-1])], [60, 59])
        self.assertEqual(wanted.unmet((0,) + (1,) * 59), tuple(range(9, 9 + 58 * 3, 3)))


class TestErrors(Refusing):
    def test_making(self):
        row = Reading(py_book(), loop_text()).row()
        words = loop_text().words
        for call in (first_impossible, Wanted):
            for value in not_of(Book):
                self.assert_refused(InvalidBook, "no", call, value, None, None)
            wrong = [loop_text(), list(words), words[:3] + (("A",),), words[:3] + ((),), words[:3] + (["c"],),
                     words[:3] + (("a",) * 7,), (("a",),) * 61, ("def",), None, words[:3] + (None,)]
            for value in wrong + [value for value in odd_values() if not isinstance(value, tuple)]:
                self.assert_refused(InvalidText, "no", call, py_book(), value, None)
                self.assert_refused(InvalidText, "no", call, py_book(), value, row)
            wrong = [row[:4], row + ((),), row[:4] + (("A",),), list(row), row[:4] + (["}"],), row[:4] + (None,), (),
                     (("}",),) * 62]
            for value in wrong + [value for value in odd_values() if value != ((),)]:
                self.assert_refused(InvalidRow, "no", call, py_book(), words, value)
            self.assert_refused(InvalidRow, "no", call, py_book(), (), ())
            self.assert_refused(InvalidRow, "no", call, py_book(), (("a",),) * 60, (("}",),) * 62)
        self.assert_refused(Impossible, 4, Wanted, py_book(), words, row[:4] + ((),))
        self.assert_refused(Impossible, 0, Wanted, py_book(), words, (("def",),) + row[1:4] + ((),))
        self.assertEqual(first_impossible(py_book(), (("a",),) * 60, ((";", "a"),) * 60 + ((),)), None)

    def test_of(self):
        for value in not_of(Book):
            self.assert_refused(InvalidBook, "no", Wanted.of, value, None)
        for value in not_of(Text):
            self.assert_refused(InvalidText, "no", Wanted.of, py_book(), value)
        self.assert_refused(Broken, 1, Wanted.of, py_book(), case_text())
        self.assert_refused(Broken, 1, Wanted.of, py_book(), Text((0, ("if",))))

    def test_lines_and_columns(self):
        wanted = Wanted.of(py_book(), loop_text())
        for value in [4, -1, SIXTY] + no_integers():
            self.assert_refused(InvalidNumber, value, wanted.demands_of, value)
        wrong = [(0, 4, 8), (0, 4, 8, 4, 0), [0, 4, 8, 4], (0, 4, 8, 200), (0, 4, 8, -1), (0, 4, 8, True),
                 (False, 4, 8, 4), (0, 4, 8, "4"), (0, 4, 8, None), "0484", (0, 4, 8, SIXTY), (0, 4, 8, (4,))]
        for value in wrong + odd_values():
            self.assert_refused(InvalidText, "no", wanted.is_read_by, value)
            self.assert_refused(InvalidText, "no", wanted.unmet, value)

    def test_equality(self):
        words = words_of("x o", "y")
        made = [Wanted(rich_book(), words, row_of("; x o", "{ y", "}")),
                Wanted(rich_book(), words, row_of("x o", "{ y", "}")),
                Wanted(rich_book("breaks"), words, row_of("; x o", "{ y", "}")),
                Wanted(rich_book(), words_of("z o", "y"), row_of("; z o", "{ y", "}")),
                Wanted.of(py_book(), loop_text())]
        for one, other in itertools.product(enumerate(made), repeat=2):
            self.assertEqual([one[1] == other[1], one[1] != other[1]], [one[0] == other[0], one[0] != other[0]])
        self.assertEqual(made[4], Wanted.of(py_book(), loop_text().at((0, 1, 2, 1))))
        for value in odd_values():
            self.assertFalse(made[0] == value)
        with self.assertRaises(TypeError):
            list(made[0])


class TestStatements(unittest.TestCase):
    def test_maps_of_columns_keep_rows(self):
        # [0.26]: lesser columns stay lesser, and 0 stays 0.
        chance = random.Random(34)
        for _ in range(300):
            book = chance.choice(kinds_of_books() + [hs_book()])
            text = random_text(chance, book, chance.randint(1, 6), (0, 1, 2, 5))
            if Reading(book, text).fault is None:
                levels = [0] + sorted(chance.sample(range(1, 200), 5))
                self.assertTrue(Wanted.of(book, text).is_read_by(tuple(levels[column] for column in text.columns)))


if __name__ == "__main__":
    unittest.main()
