"""Texts kept in parts: [13.1] and [13.2] and what stands under stage 13."""

import inspect
import random
import unittest

from offside.base.texts import Text
from offside.effect.pauses import Effect
from offside.errors import InvalidBook, InvalidNumber, InvalidText, NothingToUndo, TooMany
from offside.read.reading import Reading
from offside.tower.parts import MOST_OF_PART
from offside.tower.tower import Tower
from tests import naive
from tests.values import (SIXTY, Refusing, case_text, hs_book, kinds_of_books, loop_text, no_integers, not_of,
                          odd_values, py_book, random_book, random_text, ya_book)


def signs_of_lines(book, lines):
    """The signs of each line, None for those that are broken, by reading all of them anew."""
    parts = naive.read(book, lines, is_open=True)[0]
    return list(parts) + [None] * (len(lines) - len(parts))


class Plain:
    """A tower in the plainest way: lines with keys, and all that it had ahead of each change."""

    def __init__(self, book, lines):
        self.book = book
        self.lines = [(key, line) for key, line in enumerate(lines)]
        self.next_key = len(lines)
        self.done, self.undone = [], []

    def told(self):
        return [line for _, line in self.lines]

    def news(self, old):
        before = dict(zip([key for key, _ in old], signs_of_lines(self.book, [line for _, line in old])))
        now = signs_of_lines(self.book, self.told())
        return tuple(at for at, (key, _) in enumerate(self.lines) if key not in before or before[key] != now[at])

    def exchange(self, word, start, stop, lines):
        old = list(self.lines)
        keys = [key for key, _ in old[start:stop]]
        if word == "insert":
            keys = [self.next_key + at for at in range(len(lines))]
            self.next_key += len(lines)
        self.lines[start:stop] = list(zip(keys, lines))
        self.done.append((word, old))
        self.undone = []
        return self.news(old)

    def undo(self):
        old = self.lines
        word, self.lines = self.done.pop()
        self.undone.append((word, old))
        return self.news(old)

    def redo(self):
        old = self.lines
        word, self.lines = self.undone.pop()
        self.done.append((word, old))
        return self.news(old)


class TestExamples(unittest.TestCase):
    def test_those_of_the_document(self):
        tower = Tower(py_book(), loop_text())
        self.assertEqual([tower.signs_of(2), tower.state_ahead(3), str(tower),
                          tower.effect(1, 3) == Effect(py_book(), loop_text().part(1, 3))],
                         [("{", "b"), (((4, "def"), (8, "if")), ""), "tower of 4 lines, read", True])
        self.assertEqual([tower.move(2, 4, shift=-4), str(tower), tower.undo(), tower.move(1, 4, shift=3), tower.log],
                         [(2, 3), "tower of 4 lines, broken at 2", (2, 3), (), ("move",)])
        self.assertEqual([tower.change(1, (7, ("a",))), tower.signs_of(2), tower.undo(), tower.redo(), str(tower)],
                         [(1, 2, 3), None, (1, 2, 3), (1, 2, 3), "tower of 4 lines, broken at 2"])

    def test_others_like_them(self):
        tower = Tower(hs_book(), case_text())
        self.assertEqual([[tower[at] for at in range(5)], len(tower), tower.book, tower.text, tower.log],
                         [list(case_text()), 5, hs_book(), case_text(), ()])
        self.assertEqual(tower.insert(2, Text((4, ("z",)))), (2, 3))
        self.assertEqual([tower.signs_of(2), tower.signs_of(3), tower.state_ahead(6)],
                         [("{", "z"), ("b",), (((2, "of"),), "")])
        self.assertEqual([tower.delete(2, 3), tower.text, tower.log], [(2,), case_text(), ("insert", "delete")])
        self.assertEqual([tower.undo(), tower.undo(), tower.redo(), tower.redo()], [(2, 3), (2,), (2, 3), (2,)])

    def test_ends_that_are_broken(self):
        tower = Tower(py_book(), Text((0, ("a",)), (0, ("if",))))
        self.assertEqual([str(tower), tower.signs_of(1), tower.state_ahead(2), tower.reading().fault],
                         ["tower of 2 lines, broken at the end", (";", "if"), ((), "if"), (2, "filled")])
        self.assertEqual([tower.insert(2, Text((1, ("lp",)))), str(tower)],
                         [(2,), "tower of 3 lines, broken at the end"])
        self.assertEqual([tower.insert(3, Text((0, ("rp",)))), str(tower)], [(3,), "tower of 4 lines, read"])

    def test_without_lines(self):
        tower = Tower(ya_book(), Text())
        self.assertEqual([len(tower), tower.text, str(tower), tower.state_ahead(0), tower.effect(0, 0)],
                         [0, Text(), "tower of 0 lines, read", ((), ""), Effect(ya_book(), Text())])
        self.assertEqual([tower.insert(0, Text()), tower.delete(0, 0), tower.move(0, 0, shift=500), tower.log],
                         [(), (), (), ("insert", "delete", "move")])
        self.assertEqual([tower.insert(0, Text((0, ("a",)))), tower.text], [(0,), Text((0, ("a",)))])

    def test_a_text_that_is_broken_elsewhere(self):
        tower = Tower(py_book(), Text((0, ("a",)), (1, ("b",)), (0, ("c",)), (5, ("d",))))
        self.assertEqual([str(tower), [tower.signs_of(at) for at in range(4)], tower.state_ahead(0), tower.state_ahead(1),
                          tower.state_ahead(4)],
                         ["tower of 4 lines, broken at 1", [(";", "a"), None, None, None], ((), ""), None, None])
        # The line that is broken first is another one, but all that were broken are broken still.
        self.assertEqual([tower.change(1, (0, ("b",))), str(tower)], [(1, 2), "tower of 4 lines, broken at 3"])
        self.assertEqual([tower.change(2, (3, ("c",))), tower.change(3, (0, ("d",)))], [(2,), ()])
        self.assertEqual([tower.change(2, (0, ("c",))), str(tower)], [(2, 3), "tower of 4 lines, read"])

    def test_names(self):
        told = {Tower.signs_of: "(self, index)", Tower.state_ahead: "(self, index)", Tower.reading: "(self)",
                Tower.effect: "(self, start, stop)", Tower.insert: "(self, index, text)",
                Tower.delete: "(self, start, stop)", Tower.move: "(self, start, stop, *, shift)",
                Tower.change: "(self, index, line)", Tower.undo: "(self)", Tower.redo: "(self)",
                Tower.block: "(self)", Tower: "(book, text)"}
        for call, parameters in told.items():
            self.assertEqual(str(inspect.signature(call)), parameters, call)


class TestStepByStep(unittest.TestCase):
    def check(self, tower, plain):
        """A tower beside a reading of its lines anew."""
        lines = plain.told()
        text = Text(*lines)
        parts, fault, states, _ = naive.read(tower.book, lines)
        signs = signs_of_lines(tower.book, lines)
        self.assertEqual([tower.text, len(tower), list(tower.log)], [text, len(lines), [word for word, _ in plain.done]])
        self.assertEqual([tower.signs_of(at) for at in range(len(lines))], signs)
        known = [states[at] if at < len(lines) and signs[at] is not None else None for at in range(len(lines))]
        known.append(states[-1] if None not in signs else None)
        self.assertEqual([tower.state_ahead(at) for at in range(len(lines) + 1)], known)
        told = "read" if fault is None else f"broken at {fault[0]}" if fault[0] < len(lines) else "broken at the end"
        self.assertEqual(str(tower), f"tower of {len(lines)} lines, {told}")
        self.assertEqual([tower.reading(), tower.reading().parts], [Reading(tower.book, text), parts])
        self.assertEqual(tower, Tower(tower.book, text))

    def step(self, chance, tower, plain, columns):
        """Some change of both; the news are the same."""
        many = len(plain.lines)
        start = chance.randint(0, many)
        stop = chance.randint(start, min(many, start + chance.choice((0, 1, 3, 20))))
        kind = chance.choice(("insert", "insert", "delete", "move", "change", "change", "undo", "redo"))
        if kind == "insert":
            text = random_text(chance, tower.book, chance.randint(0, min(60 - many, chance.choice((1, 2, 12)))), columns)
            return tower.insert(start, text), plain.exchange("insert", start, start, list(text))
        if kind == "delete":
            return tower.delete(start, stop), plain.exchange("delete", start, stop, [])
        if kind == "move":
            shift = chance.choice((-1, 0, 1, 2))
            lines = [(column + shift, words) for column, words in plain.told()[start:stop]]
            if all(0 <= column <= 199 for column, _ in lines):
                return tower.move(start, stop, shift=shift), plain.exchange("move", start, stop, lines)
        if kind == "change" and start < many:
            line = random_text(chance, tower.book, 1, columns)[0]
            return tower.change(start, line), plain.exchange("change", start, start + 1, [line])
        if kind == "undo" and plain.done:
            return tower.undo(), plain.undo()
        if kind == "redo" and plain.undone:
            return tower.redo(), plain.redo()
        return (), ()

    def test_many_changes(self):
        chance = random.Random(151)
        for turn in range(60):
            book = random_book(chance) if turn % 3 else random_book(chance).joining(deep="joins", gap="joins")
            columns = ((0,), (0, 1, 2), (0, 0, 1, 2, 198, 199))[turn % 3]
            text = random_text(chance, book, chance.choice((0, 3, 9, 30, 60)), columns)
            tower, plain = Tower(book, text), Plain(book, list(text))
            for _ in range(30):
                news, expected = self.step(chance, tower, plain, columns)
                self.assertEqual(news, expected)
                self.check(tower, plain)

    def test_long_texts_that_are_read(self):
        chance = random.Random(152)
        for book in kinds_of_books()[::3]:
            lines = [(chance.choice((0, 1, 2, 5)), chance.choice((("x",), ("y", "o"), ("x", "p"), ("l", "x", "r"))))
                     for _ in range(60)]
            book = book.joining(deep="joins", gap="joins").with_opener("o", "level", "empty")
            tower, plain = Tower(book, Text(*lines)), Plain(book, lines)
            self.check(tower, plain)
            for at in range(0, 60, 7):
                line = (chance.choice((0, 3)), ("z", chance.choice("opx")))
                self.assertEqual(tower.change(at, line), plain.exchange("change", at, at + 1, [line]))
                self.check(tower, plain)

    def test_brackets_over_many_lines(self):
        lines = [(at, ("lp",) * 6) for at in range(30)] + [(0, ("rp",) * 6) for _ in range(30)]
        tower, plain = Tower(py_book(), Text(*lines)), Plain(py_book(), lines)
        self.check(tower, plain)
        for at in (0, 29, 30, 59):
            self.assertEqual(tower.change(at, (0, ("x",))), plain.exchange("change", at, at + 1, [(0, ("x",))]))
            self.check(tower, plain)
            self.assertEqual(tower.undo(), plain.undo())

    def test_parts_are_kept(self):
        """[13.1]: behind a change only few parts are new, also behind many changes."""
        chance = random.Random(153)
        tower = Tower(py_book(), Text(*[(0, ("a",))] * 60))
        self.assertEqual(max(len(part.rows) for part in tower._now.tiers), MOST_OF_PART)
        for _ in range(150):
            old = tower._now.tiers
            at = chance.randint(0, len(tower) - 1)
            if chance.random() < .5 and len(tower) < 60:
                tower.insert(at, Text((0, ("b",))))
            elif chance.random() < .5 and len(tower) > 20:
                tower.delete(at, at + 1)
            else:
                tower.change(at, (0, ("c",)))
            fresh = [part for part in tower._now.tiers if not any(part is other for other in old)]
            self.assertLessEqual(len(fresh), 3)
            self.assertTrue(all(len(part.kept) == 1 for part in fresh))
            # Each part is read once only, as the ground is all that it asks for.
            self.assertEqual({len(part.kept) for part in tower._now.tiers}, {1})
            self.assertLessEqual(len(tower._now.tiers), 2 * 60 // MOST_OF_PART + 2)
            tower = tower if len(tower.log) < 190 else Tower(py_book(), tower.text)


class TestChanges(Refusing):
    def test_changes_that_are_taken_back(self):
        tower = Tower(py_book(), loop_text())
        tower.insert(4, Text((0, ("d",))))
        tower.change(0, (0, ("x", "def")))
        kept = tower.text
        self.assertEqual([tower.undo(), tower.undo(), tower.text], [(0,), (), loop_text()])
        self.assert_refused(NothingToUndo, 0, tower.undo)
        self.assertEqual([tower.redo(), tower.redo(), tower.text], [(4,), (0,), kept])
        self.assert_refused(NothingToUndo, 0, tower.redo)
        tower.undo()
        tower.move(1, 4, shift=0)
        self.assertEqual(tower.log, ("insert", "move"))
        self.assert_refused(NothingToUndo, 0, tower.redo)

    def test_a_change_that_fails_keeps_what_can_be_done_again(self):
        tower = Tower(py_book(), loop_text())
        tower.delete(3, 4)
        tower.undo()
        self.assert_refused(InvalidText, "no", tower.move, 0, 4, shift=192)
        self.assert_refused(InvalidNumber, 4, tower.change, 4, (0, ("a",)))
        self.assertEqual([tower.redo(), tower.log, len(tower)], [(), ("delete",), 3])

    def test_two_hundred_changes(self):
        tower = Tower(py_book(), loop_text())
        for at in range(200):
            tower.change(3, (4, ("c" if at % 2 else "d",)))
        told = (tower.text, tower.log, len(tower.log))
        self.assertEqual(told[2], 200)
        for call in (lambda: tower.change(3, (4, ("c",))), lambda: tower.insert(0, Text()), lambda: tower.delete(0, 0),
                     lambda: tower.move(0, 0, shift=1)):
            self.assert_refused(TooMany, 200, call)
        self.assert_refused(InvalidText, "no", tower.insert, 0, Text(*[(0, ("a",))] * 57))
        self.assert_refused(InvalidText, "no", tower.move, 0, 4, shift=-1)
        self.assert_refused(InvalidNumber, 5, tower.delete, 5, 5)
        self.assertEqual((tower.text, tower.log, len(tower.log)), told)
        tower.undo()
        self.assertEqual(tower.redo(), (3,))
        tower.undo()
        self.assertEqual([tower.change(3, (4, ("z",))), len(tower.log)], [(3,), 200])
        for _ in range(200):
            tower.undo()
        self.assertEqual([tower.text, tower.log], [loop_text(), ()])

    def test_sixty_lines(self):
        full = Text(*[(0, ("a",))] * 60)
        tower = Tower(py_book(), full)
        self.assert_refused(InvalidText, "no", tower.insert, 60, Text((0, ("a",))))
        self.assertEqual([tower.insert(7, Text()), tower.delete(0, 20), tower.insert(40, full.part(0, 20))],
                         [(), (), tuple(range(40, 60))])
        self.assert_refused(InvalidText, "no", tower.insert, 0, full)
        self.assertEqual(tower.text, full)

    def test_columns_at_the_bounds(self):
        tower = Tower(py_book(), Text((0, ("if",)), (199, ("a",))))
        self.assertEqual([tower.move(1, 2, shift=-198), tower.move(1, 2, shift=198), tower.text.columns],
                         [(), (), (0, 199)])
        for start, stop, shift in ((0, 1, -1), (1, 2, 1), (0, 2, 1), (0, 2, 199), (0, 1, 200), (0, 1, SIXTY)):
            self.assert_refused(InvalidText, "no", tower.move, start, stop, shift=shift)
        self.assertEqual([tower.move(0, 0, shift=SIXTY), tower.move(2, 2, shift=-SIXTY)], [(), ()])
        self.assertEqual(tower.text.columns, (0, 199))

    def test_blocks(self):
        tower = Tower(py_book(), loop_text())
        tower.change(3, (4, ("z",)))
        tower.move(1, 4, shift=1)
        tower.undo()
        told = (tower.text, tower.log, str(tower))
        with tower.block() as same:
            self.assertIs(same, tower)
            same.delete(0, 4)
            with tower.block() as inner:
                inner.insert(0, loop_text())
                self.assertEqual(tower.text, loop_text())
            self.assertEqual([len(tower), tower.log], [0, ("change", "delete")])
            self.assert_refused(NothingToUndo, 0, tower.redo)
        self.assertEqual((tower.text, tower.log, str(tower)), told)
        with self.assertRaises(KeyError):
            with tower.block():
                tower.undo()
                tower.insert(0, Text((0, ("q",))))
                raise KeyError("goes on")
        self.assertEqual((tower.text, tower.log, str(tower)), told)
        self.assertEqual([tower.redo(), tower.log], [(), ("change", "move")])
        with self.assertRaises(InvalidNumber):
            with tower.block() as same:
                same.delete(0, 2)
                same.delete(0, 9)
        self.assertEqual(len(tower), 4)

    def test_equality(self):
        one, other = Tower(py_book(), loop_text()), Tower(py_book(), loop_text().part(0, 2))
        self.assertFalse(one == other)
        other.insert(2, loop_text().part(2, 4))
        self.assertTrue(one == other)
        one.delete(1, 2)
        self.assertTrue(one != other)
        one.undo()
        self.assertTrue(one == other)
        self.assertFalse(one == Tower(hs_book(), loop_text()))
        for value in odd_values() + [loop_text(), Reading(py_book(), loop_text())]:
            self.assertIs(one == value, False)
            self.assertIs(one != value, True)
        with self.assertRaises(TypeError):
            list(one)

    def test_nothing_is_shared(self):
        text = loop_text()
        one, other = Tower(py_book(), text), Tower(py_book(), text)
        kept = one.text
        one.delete(0, 4)
        self.assertEqual([text, kept, other.text, len(one)], [loop_text(), loop_text(), loop_text(), 0])
        for name in ("book", "text", "log"):
            with self.assertRaises(AttributeError):
                setattr(one, name, 1)


class TestErrors(Refusing):
    def setUp(self):
        self.tower = Tower(py_book(), loop_text())
        self.tower.move(1, 4, shift=1)
        self.tower.undo()

    def tearDown(self):
        """Nothing has changed, also what can be done again."""
        self.assertEqual([self.tower.text, self.tower.log], [loop_text(), ()])
        self.assertEqual([self.tower.redo(), self.tower.log], [(), ("move",)])

    def test_making(self):
        for value in not_of(type(py_book())):
            self.assert_refused(InvalidBook, "no", Tower, value, None)
        for value in not_of(Text):
            self.assert_refused(InvalidText, "no", Tower, py_book(), value)

    def test_indices(self):
        tower = self.tower
        for value in [4, -1, SIXTY, -SIXTY] + no_integers():
            self.assert_refused(InvalidNumber, value, tower.signs_of, value)
            self.assert_refused(InvalidNumber, value, tower.__getitem__, value)
            self.assert_refused(InvalidNumber, value, tower.change, value, None)
        for value in [5, -1, SIXTY, -SIXTY] + no_integers():
            self.assert_refused(InvalidNumber, value, tower.state_ahead, value)
            self.assert_refused(InvalidNumber, value, tower.insert, value, None)
        for call in (tower.effect, tower.delete, lambda start, stop: tower.move(start, stop, shift=None)):
            for value in [5, -1, SIXTY] + no_integers():
                self.assert_refused(InvalidNumber, value, call, value, None)
            for value in [5, 1, 0, -1, SIXTY] + no_integers():
                self.assert_refused(InvalidNumber, value, call, 2, value)

    def test_texts_and_lines(self):
        tower = self.tower
        for value in not_of(Text):
            self.assert_refused(InvalidText, "no", tower.insert, 0, value)
        for value in [(0, ()), (200, ("a",)), (True, ("a",)), [0, ("a",)], (0, ["a"]), (0, ("A",)), (0, ("a",) * 7),
                      loop_text()] + odd_values():
            self.assert_refused(InvalidText, "no", tower.change, 0, value)

    def test_shifts(self):
        for value in no_integers():
            self.assert_refused(InvalidNumber, value, self.tower.move, 0, 4, shift=value)
        self.assert_refused(InvalidText, "no", self.tower.move, 0, 4, shift=-1)
        self.assert_refused(InvalidText, "no", self.tower.move, 2, 3, shift=192)


if __name__ == "__main__":
    unittest.main()
