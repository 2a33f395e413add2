"""Places for lines: [11.1] to [11.3] and what stands under stage 11."""

import inspect
import itertools
import random
import unittest

from offside.base.books import Book
from offside.base.texts import Text
from offside.demand.columns import System, is_ring
from offside.demand.lengths import without_implied
from offside.demand.places import is_portable, is_stops, joint, menu, pastes, portable, shifts, stops
from offside.demand.rows import Wanted
from offside.errors import (Broken, Impossible, InvalidBook, InvalidNumber, InvalidOperation, InvalidText, TooMany)
from offside.read.reading import Reading
from tests import naive
from tests.values import (SIXTY, Refusing, case_text, hs_book, kinds_of_books, loop_text, no_integers, not_of,
                          odd_values, py_book, random_book, random_text, ya_book)


def rows_over(chance, books, words):
    """A wanted row under each book, from columns that some text has; None if none is found."""
    rows = []
    for book in books:
        for _ in range(20):
            text = Text.made(tuple(chance.randint(0, 3) for _ in words), words)
            if Reading(book, text).fault is None:
                rows.append(Wanted.of(book, text))
                break
        else:
            return None
    return rows


class TestExamples(unittest.TestCase):
    def test_those_of_the_document(self):
        self.assertEqual([shifts(py_book(), loop_text(), 1, 4), shifts(py_book(), loop_text(), 2, 3),
                          shifts(py_book(), loop_text(), 3, 4)], [(-3, 191), (-3, 191), (0, 0)])
        self.assertIs(is_stops(py_book(), loop_text(), 2, 3, ((2, 1, 1), (-1, 2, -199))), True)
        self.assertEqual(menu(py_book(), loop_text(), ("d",)), (
            (0, 0, ("}", ";", "d")), (1, 3, "gap"), (4, 4, (";", "d")), (5, 199, "deep")))
        self.assertEqual(pastes(py_book(), loop_text(), 3, Text((0, ("x",)), (0, ("y",)))),
                         ((8, 8, ((";", "x"), (";", "y"))),))
        self.assertEqual(portable(Wanted.of(py_book(), loop_text())), ("columns", (0, 1, 2, 1)))

    def test_others_like_them(self):
        self.assertEqual(shifts(hs_book(), case_text(), 2, 3), (-2, 193))
        self.assertEqual(shifts(hs_book(), case_text(), 0, 5), (0, 0))
        self.assertEqual(menu(ya_book(), Text((3, ("key",))).moved(-3), ("a", "key")), ((0, 199, ("{", "a", "key")),))
        self.assertEqual(menu(hs_book(), Text((0, ("of",))), ("in",)), ((0, 199, "ender"),))
        self.assertEqual(menu(py_book(), Text((0, ("if",))), ("rp",)), ((0, 199, "filled"),))
        self.assertEqual(menu(py_book(), Text((0, ("lp",))), ("x",)), ((0, 199, ("x",)),))
        self.assertEqual(pastes(py_book(), loop_text(), 1, Text((5, ("z",)))), ())
        self.assertEqual(pastes(py_book(), loop_text(), 4, Text((7, ("z",)))), (
            (-7, -7, (("}", ";", "z"),)), (-3, -3, ((";", "z"),)))[1:])

    def test_names(self):
        told = {joint: "(*rows)", portable: "(*rows)", is_portable: "(rows, value)", menu: "(book, text, words)",
                shifts: "(book, text, first, last)", stops: "(book, text, first, last)",
                is_stops: "(book, text, first, last, value)", pastes: "(book, text, at, other)"}
        for call, parameters in told.items():
            self.assertEqual(str(inspect.signature(call)), parameters, call)


class TestSeveralBooks(Refusing):
    def test_rows_under_two_and_three_books(self):
        chance = random.Random(111)
        kinds = {"columns": 0, "ring": 0}
        for _ in range(400):
            book = random_book(chance)
            openers = {word: (chance.choice(("deeper", "level")), chance.choice(("filled", "empty")))
                       for word in book.openers}
            books = [book.joining(deep="joins", gap="joins"), type(book)(openers, book.enders, book.brackets,
                     deep=chance.choice(("joins", "breaks"))), random_book(chance)][:chance.randint(1, 3)]
            rows = rows_over(chance, books, random_text(chance, book, chance.randint(0, 3), (0,)).words)
            if rows is None:
                continue
            every = [columns for columns in itertools.product(range(5), repeat=len(rows[0]))
                     if all(Reading(row.book, Text.made(columns, row.words)).parts == row.wanted for row in rows)]
            paper = portable(*rows)
            kinds[paper[0]] += 1
            self.assertIs(is_portable(tuple(rows), paper), True)
            system = joint(*rows)
            self.assertEqual([columns for columns in itertools.product(range(5), repeat=len(rows[0]))
                              if system.is_met(columns)], every)
            if paper[0] == "columns":
                self.assertIn(paper[1], every)
                self.assertEqual(paper[1], tuple(min(column) for column in zip(*every)))
            else:
                self.assertEqual([every, is_ring(system, paper[1])], [[], True])
            for columns in itertools.product(range(5), repeat=len(rows[0])):
                self.assertIs(is_portable(tuple(rows), ("columns", columns)), columns in every)
        self.assertGreater(kinds["columns"], 60)
        self.assertGreater(kinds["ring"], 10)

    def test_a_row_alone(self):
        row = Wanted.of(hs_book(), case_text())
        self.assertEqual(joint(row), System.wanting(row))
        self.assertEqual(joint(row, row, row), joint(row))
        self.assertEqual(portable(row), ("columns", System.wanting(row).narrowest))

    def test_a_ring(self):
        words = (("a", "of"), ("b",))
        block = Wanted(hs_book(), words, ((";", "a", "of"), ("{", "b"), ("}",)))
        level = Wanted(hs_book(), words, ((";", "a", "of"), ("{", "}", ";", "b"), ()))
        kind, ring = portable(block, level)
        self.assertEqual([kind, is_ring(joint(block, level), ring)], ["ring", True])
        self.assertIs(is_portable((block, level), ("ring", ((1, -1, 1), (-1, 1, 0)))), True)
        self.assertEqual(portable(block), ("columns", (0, 1)))

    def test_what_is_no_paper(self):
        row = Wanted.of(py_book(), loop_text())
        for value in ((0, 1, 2, 1), (0, 4, 8, 4), (0, 198, 199, 198)):
            self.assertIs(is_portable((row,), ("columns", value)), True)
        wrong = [("columns", (0, 1, 1, 1)), ("columns", (0, 1, 2)), ("columns", (0, 1, 2, 1, 0)), ("columns",),
                 ("columns", [0, 1, 2, 1]), ["columns", (0, 1, 2, 1)], ("columns", (0, True, 2, 1)),
                 ("columns", (0, 1, 2, 1), ()), ("ring", (0, 1, 2, 1)), ("ring", ()), (0, 1, 2, 1),
                 ("ring", ((1, 0, 1), (0, 1, 0))), ("Columns", (0, 1, 2, 1)), ("columns", (0, 199, 200, 199)),
                 ("ring", ((1, 0, 1), (-1, 1, -199), (0, -1, 0)))]
        for value in wrong + odd_values() + [("columns", value) for value in odd_values()] + [
                ("ring", value) for value in odd_values()]:
            self.assertIs(is_portable((row,), value), False, value)

    def rows_of_sixty_lines(self, chance, many, is_same):
        """Rows over the same words under many books, all of them from the same columns or not."""
        words = tuple((chance.choice("xabcabc"),) for _ in range(60))
        narrow = tuple(chance.randint(0, 60) for _ in range(60))
        rows = []
        for _ in range(many):
            columns = narrow if is_same else tuple(chance.randint(0, 60) for _ in range(60))
            openers = {word: (chance.choice(("level", "deeper")), "empty") for word in "abc" if chance.random() < .8}
            rows.append(Wanted.of(Book(openers, {}, {}, deep="joins", gap="joins"), Text.made(columns, words)))
        return rows, narrow

    def test_more_than_600_demands(self):
        chance = random.Random(112)
        most = 0
        for many, is_same in ((3, True), (3, False), (12, True), (12, False), (40, True), (40, False)):
            rows, narrow = self.rows_of_sixty_lines(chance, many, is_same)
            self.assertGreater(sum(len(row.demands) for row in rows), 600)
            most = max(most, len({demand[:2] for row in rows for demand in row.demands}))
            paper = portable(*rows)
            self.assertIs(is_portable(tuple(rows), paper), True)
            self.assertEqual(paper[0], "columns" if is_same else "ring")
            self.assertIs(is_portable(tuple(rows), ("columns", narrow)), is_same)
            self.assertIs(joint(*rows).is_met(narrow), is_same)
            if is_same:
                self.assertTrue(all(least <= column for least, column in zip(paper[1], narrow)))
                self.assertTrue(all(row.is_read_by(joint(*rows).widest) for row in rows))
            else:
                self.assertTrue(is_ring(joint(*rows), paper[1]))
        # So many that not even the greatest one of each two lines could stand in a system.
        self.assertGreater(most, 600)

    def test_demands_that_others_imply_are_left_out(self):
        chance = random.Random(116)
        for _ in range(500):
            many = chance.randint(0, 4)
            places = range(-1, many)
            demands = sorted({(chance.choice(places), chance.choice(places), chance.randint(-3, 3))
                              for _ in range(chance.randint(0, 12))})
            kept = without_implied(many, demands)
            self.assertTrue(System(many, tuple(kept)).is_alike(System(many, tuple(demands))))
        steps = [(at + 1, at, 1) for at in range(20)]
        jumps = [(at + 2, at, 1) for at in range(19)] + [(at, -1, 0) for at in range(20)]
        self.assertEqual(without_implied(21, jumps + steps), steps)

    def test_errors(self):
        one, other = Wanted.of(py_book(), loop_text()), Wanted.of(py_book(), Text((0, ("a",))))
        self.assert_refused(InvalidOperation, "no", joint)
        self.assert_refused(InvalidOperation, "no", portable)
        self.assert_refused(InvalidOperation, "no", is_portable, (), None)
        for call in (joint, portable, lambda *rows: is_portable(rows, ("columns", ()))):
            self.assert_refused(InvalidOperation, "no", call, one, other)
            for value in odd_values() + [loop_text(), System(4)]:
                self.assert_refused(InvalidOperation, "no", call, value)
                self.assert_refused(InvalidOperation, "no", call, one, value)
        for value in odd_values() + [[one], one]:
            self.assert_refused(InvalidOperation, "no", is_portable, value, None)
        empty = Wanted(py_book(), (), ((),))
        self.assertEqual([portable(empty), joint(empty, Wanted(hs_book(), (), ((),)))], [("columns", ()), System(0)])


class TestMenus(Refusing):
    def check_menu(self, book, text, words):
        """The menu of a line beside each column alone."""
        found = menu(book, text, words)
        told = {}
        for least, greatest, kind in found:
            for column in range(least, greatest + 1):
                self.assertNotIn(column, told)
                told[column] = kind
        self.assertEqual(list(told), list(range(200)))
        for one, other in itertools.pairwise(found):
            self.assertNotEqual(one[2], other[2])
        state = naive.read(book, text.lines, is_open=True)[2][-1]
        for column in range(200):
            line = naive.read_line(book, state, (column, words))
            self.assertEqual(told[column], line if isinstance(line, str) else line[0])
        return found

    def test_each_kind_of_top(self):
        kinds = set()
        for book in kinds_of_books():
            for pile in ((), ((2, "o"),), ((2, "p"),), ((2, "o"), (-1, "l")), ((1, "p"), (5, "o"), (9, "p"))):
                for waiting in ("", "o", "p"):
                    lines = []
                    column = 0
                    for place, word in pile:
                        lines.append((column, (word,) if place >= 0 else ("x", word)))
                        column = max(place, 0)
                    text = Text(*lines, *([(column, ("x", waiting) if waiting else ("x",))] if pile or waiting else []))
                    if Reading(book, text, is_open=True).fault is None:
                        for words in (("x",), ("o",), ("e", "x"), ("x", "e"), ("r",), ("l", "x"), ("y", "r", "p")):
                            kinds |= {entry[2] if isinstance(entry[2], str) else "" for entry in
                                      self.check_menu(book, text, words)}
        self.assertEqual(kinds, {"", "closer", "deep", "ender", "filled", "gap"})

    def test_random_texts(self):
        chance = random.Random(113)
        made = 0
        for _ in range(200):
            book = random_book(chance)
            text = random_text(chance, book, chance.randint(0, 5), (0, 0, 1, 2, 7, 199))
            words = random_text(chance, book, 1, (0,)).words[0]
            fault = Reading(book, text, is_open=True).fault
            if fault is None:
                self.check_menu(book, text, words)
                made += 1
            else:
                self.assert_refused(Broken, fault[0], menu, book, text, words)
        self.assertGreater(made, 40)

    def test_the_end_is_left_out(self):
        self.assertEqual(Reading(py_book(), Text((0, ("if",)))).fault, (1, "filled"))
        self.assertEqual(menu(py_book(), Text((0, ("if",))), ("a",)), ((0, 0, "filled"), (1, 199, ("{", "a"))))

    def test_sixty_lines(self):
        text = Text(*[(0, ("a",))] * 59)
        self.assertEqual(menu(py_book(), text, ("a",))[0], (0, 0, (";", "a")))
        full = text + Text((0, ("a",)))
        self.assert_refused(TooMany, 60, menu, py_book(), full, ("a",))
        broken = text + Text((1, ("a",)))
        self.assert_refused(Broken, 59, menu, py_book(), broken, ("a",))
        deep = Text(*[(at, ("lp",) * 6) for at in range(59)])
        self.assertEqual(menu(py_book(), deep, ("a",)), ((0, 199, ("a",)),))

    def test_errors(self):
        for value in not_of(type(py_book())):
            self.assert_refused(InvalidBook, "no", menu, value, None, None)
        for value in not_of(Text):
            self.assert_refused(InvalidText, "no", menu, py_book(), value, None)
        broken = Text((1, ("a",)))
        for value in [(), ("a",) * 7, ["a"], ("A",), "a", ("a", 1)] + [
                value for value in odd_values() if not isinstance(value, tuple) or value[:1] != ("deeper",)]:
            self.assert_refused(InvalidText, "no", menu, py_book(), broken, value)


class TestShifts(Refusing):
    def check_stretch(self, book, text, first, last, most):
        """The shifts of some lines beside each shift alone."""
        row = Reading(book, text).parts
        kept = []
        for by in range(-199, 200):
            columns = tuple(column + by if first <= at < last else column for at, column in enumerate(text.columns))
            if all(0 <= column <= 199 for column in columns):
                if naive.read(book, text.at(columns).lines)[0] == row:
                    kept.append(by)
        least, greatest = shifts(book, text, first, last)
        self.assertEqual(kept, list(range(least, greatest + 1)))
        self.assertIn(0, kept)
        pair = stops(book, text, first, last)
        demands = sorted(set(Wanted.of(book, text).demands))[:most]
        for value in itertools.product(demands, repeat=2):
            good = []
            for (upper, lower, more), by in zip(value, (least - 1, greatest + 1)):
                places = [column + by if first <= at < last else column for at, column in enumerate(text.columns)] + [0]
                good.append(places[upper] < places[lower] + more)
            self.assertIs(is_stops(book, text, first, last, value), all(good))
        self.assertIs(is_stops(book, text, first, last, pair), True)

    def test_each_stretch(self):
        for book, text in ((py_book(), loop_text()), (hs_book(), case_text())):
            for first, last in itertools.combinations(range(len(text) + 1), 2):
                self.check_stretch(book, text, first, last, 99)

    def test_random_texts(self):
        chance = random.Random(114)
        made = 0
        for _ in range(1200):
            book = random_book(chance).joining(deep="joins", gap="joins")
            text = random_text(chance, book, chance.randint(1, 4), (0, 1, 2, 5, 199))
            if Reading(book, text).fault is None:
                first = chance.randint(0, len(text) - 1)
                self.check_stretch(book, text, first, chance.randint(first + 1, len(text)), 6)
                made += 1
        self.assertGreater(made, 60)

    def test_demands_that_stop_one_step_later(self):
        text = Text((0, ("of",)), (3, ("x", "of")), (9, ("b",)), (8, ("c",)))
        self.assertEqual(Reading(hs_book(), text).parts[3], ("}", "c"))
        self.assertEqual([shifts(hs_book(), text, 1, 2), stops(hs_book(), text, 1, 2)], [(-2, 4), ((1, -1, 1), (3, 1, 1))])
        self.assertIs(is_stops(hs_book(), text, 1, 2, ((1, -1, 1), (2, 1, 1))), False)
        self.assertIs(is_stops(hs_book(), text, 1, 2, ((1, -1, 0), (3, 1, 1))), False)

    def test_values_that_are_no_stops(self):
        wrong = [((2, 1, 1),), ((-1, 2, -199), (2, 1, 1)), ((2, 1, 1), (2, 1, 1)), [(2, 1, 1), (-1, 2, -199)],
                 ((2, 1, 1), (-1, 2, -198)), ((2, 1, 0), (-1, 2, -199)), ((2, 1, True), (-1, 2, -199)),
                 ((2, True, 1), (-1, 2, -199)), ((2, 1, 1), (-1, 2, -199), (2, 1, 1)), ((2, 1, 1), None),
                 ((2, 0, 5), (-1, 2, -199)), ([2, 1, 1], (-1, 2, -199))]
        for value in wrong + odd_values():
            self.assertIs(is_stops(py_book(), loop_text(), 2, 3, value), False, value)

    def test_errors(self):
        text, broken = loop_text(), Text((0, ("if",)), (0, ("a",)), (1, ("a",)))
        for call in (shifts, stops, lambda *told: is_stops(*told, None)):
            for value in not_of(type(py_book())):
                self.assert_refused(InvalidBook, "no", call, value, None, None, None)
            for value in not_of(Text):
                self.assert_refused(InvalidText, "no", call, py_book(), value, None, None)
            for value in [4, -1, SIXTY] + no_integers():
                self.assert_refused(InvalidNumber, value, call, py_book(), text, value, None)
            for value in [1, 0, -1, 5, SIXTY] + no_integers():
                self.assert_refused(InvalidNumber, value, call, py_book(), text, 1, value)
            self.assert_refused(InvalidNumber, 0, call, py_book(), Text(), 0, 0)
            self.assert_refused(InvalidNumber, 4, call, py_book(), broken, 0, 4)
            self.assert_refused(Broken, 1, call, py_book(), broken, 0, 1)
            self.assert_refused(Broken, 1, call, py_book(), broken.part(0, 1), 0, 1)


class TestPastes(Refusing):
    def check_paste(self, book, text, at, other):
        """The moves that fit beside each move alone."""
        row = Reading(book, text).parts
        told = {}
        for by in range(-250, 251):
            columns = [column + by for column in other.columns]
            if all(0 <= column <= 199 for column in columns):
                lines = list(text.lines[:at]) + list(zip(columns, other.words)) + list(text.lines[at:])
                parts, fault, _, _ = naive.read(book, lines)
                if fault is None and parts[:at] + parts[at + len(other):] == row:
                    told[by] = parts[at:at + len(other)]
        found = pastes(book, text, at, other)
        self.assertEqual({by: parts for least, greatest, parts in found for by in range(least, greatest + 1)}, told)
        self.assertEqual(list(found), sorted(found))
        for one, after in itertools.pairwise(found):
            self.assertTrue(one[1] + 1 < after[0] or one[2] != after[2])
        return found

    def test_each_place(self):
        parts = (Text((3, ("x",))), Text((5, ("x", "of")), (7, ("y",))), Text((0, ("x", "if")), (9, ("y",)), (0, ("z",))),
                 Text((2, ("x", "lp")), (0, ("rp",))), Text((0, ("x",)), (199, ("y",))))
        for book, text in ((py_book(), loop_text()), (hs_book(), case_text())):
            for at, other in itertools.product(range(len(text) + 1), parts):
                self.check_paste(book, text, at, other)

    def test_random_texts(self):
        chance = random.Random(115)
        fits = 0
        for _ in range(500):
            book = random_book(chance).joining(deep="joins")
            text = random_text(chance, book, chance.randint(0, 4), (0, 1, 2, 5))
            other = random_text(chance, book, chance.randint(1, 3), (0, 1, 3, 9))
            at = chance.randint(0, len(text))
            fault = Reading(book, text).fault
            if fault is None:
                fits += self.check_paste(book, text, at, other) != ()
            else:
                self.assert_refused(Broken, fault[0], pastes, book, text, at, other)
        self.assertGreater(fits, 30)

    def test_without_lines(self):
        for at in range(5):
            self.assertEqual(pastes(py_book(), loop_text(), at, Text()), ((-199, 199, ()),))
        self.assertEqual(pastes(hs_book(), Text(), 0, Text()), ((-199, 199, ()),))
        self.assertEqual(pastes(py_book(), Text(), 0, Text((5, ("a",)))), ((-5, -5, ((";", "a"),)),))
        self.assert_refused(Broken, 1, pastes, py_book(), Text((0, ("if",))), 0, Text())

    def test_sixty_lines(self):
        text, other = Text(*[(0, ("a",))] * 40), Text(*[(3, ("b",))] * 20)
        for at in (0, 17, 40):
            self.assertEqual(pastes(py_book(), text, at, other), ((-3, -3, ((";", "b"),) * 20),))
            self.assert_refused(TooMany, 60, pastes, py_book(), text, at, other + Text((3, ("b",))))
        broken = text + Text((1, ("a",)))
        self.assert_refused(Broken, 40, pastes, py_book(), broken, 0, other)
        self.assertEqual(pastes(py_book(), Text(*[(0, ("a",))] * 60), 3, Text()), ((-199, 199, ()),))

    def test_errors(self):
        text = loop_text()
        for value in not_of(type(py_book())):
            self.assert_refused(InvalidBook, "no", pastes, value, None, None, None)
        for value in not_of(Text):
            self.assert_refused(InvalidText, "no", pastes, py_book(), value, None, None)
            self.assert_refused(InvalidText, "no", pastes, py_book(), Text((1, ("a",))), 0, value)
        for value in [5, -1, SIXTY] + no_integers():
            self.assert_refused(InvalidNumber, value, pastes, py_book(), text, value, None)

    def test_impossible_rows_are_no_wanted_rows(self):
        with self.assertRaises(Impossible):
            Wanted(py_book(), (("a",),), (("a",), ()))


if __name__ == "__main__":
    unittest.main()
