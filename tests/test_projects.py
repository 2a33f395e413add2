"""Projects: [14.1] to [14.3] and what stands under stage 14."""

import inspect
import random
import unittest

from offside.base.texts import Text
from offside.errors import (InvalidBook, InvalidNumber, InvalidOperation, InvalidText, NothingToUndo, Refused, TooMany)
from offside.read.reading import Reading
from offside.use import project as module
from offside.use.project import Project
from tests import naive
from tests.values import (SIXTY, SIXTY_ONE, Refusing, case_text, hs_book, loop_text, no_integers, not_of, odd_values,
                          py_book, random_book, random_text, ya_book)


def with_lines(book, text):
    project = Project(book)
    for at, line in enumerate(text):
        project.put(at, line)
    return project


def told(project):
    """All that can be seen of a project but what can be done again."""
    return [project.book, project.text, project.marks, project.pins, project.log, str(project), len(project)]


class Plain:
    """A project in the plainest way; a stand is (book, lines by marks, pins, marks given)."""

    def __init__(self, book):
        self.stand = (book, [], [], 0)
        self.done, self.undone = [], []

    def parts(self, stand):
        book, lines, _, _ = stand
        parts = naive.read(book, [line for _, line in lines], is_open=True)[0]
        return {mark: parts[at] if at < len(parts) else None for at, (mark, _) in enumerate(lines)}

    def news(self, old):
        before, now = self.parts(old), self.parts(self.stand)
        found = {mark: "gone" for mark in before if mark not in now}
        found.update({mark: "new" for mark in now if mark not in before})
        found.update({mark: "signs" for mark in now if mark in before and now[mark] != before[mark]})
        return tuple(sorted(found.items()))

    def do(self, word, *rest):
        """Does a change; what it returns is the news or the first pin that would not hold."""
        book, lines, pins, given = self.stand
        lines, pins = list(lines), list(pins)
        places = [mark for mark, _ in lines]
        if word == "put":
            given += 1
            lines.insert(rest[0], (given, rest[1]))
        elif word == "remove":
            del lines[places.index(rest[0])]
        elif word == "change":
            lines[places.index(rest[0])] = rest
        elif word == "move":
            for at in range(places.index(rest[0]), places.index(rest[1]) + 1):
                mark, (column, words) = lines[at]
                lines[at] = (mark, (column + rest[2], words))
        elif word == "use":
            book = rest[0]
        elif word == "pin":
            pins.append(rest[0])
        else:
            pins.remove(rest[0])
        stand = (book, lines, pins, given)
        for pin in pins:
            if not self.holds(stand, pin):
                return pin
        old = self.stand
        self.done.append((word, old))
        self.undone = []
        self.stand = stand
        return self.news(old)

    def turn(self, one, other, many):
        old = self.stand
        for _ in range(many):
            word, stand = one.pop()
            other.append((word, self.stand))
            self.stand = stand
        return self.news(old)

    def holds(self, stand, pin):
        book, lines, _, _ = stand
        plain = [line for _, line in lines]
        places = [mark for mark, _ in lines]
        if pin[0] == "read":
            return naive.read(book, plain)[1] is None
        at = places.index(pin[1])
        if pin[0] == "signs":
            return self.parts(stand)[pin[1]] == pin[2]
        other = places.index(pin[2])
        if pin[0] == "over":
            return plain[at][0] >= plain[other][0] + pin[3]
        if self.parts(stand)[pin[1]] is None:
            return False
        return other in self.opening_lines(book, plain[:at + 1])

    def opening_lines(self, book, lines):
        """The lines whose opener or bracket has a block on the pile behind all of them: by depth alone."""
        pile, waiting = [], None
        for index, (parts, head) in enumerate(zip(*[naive.read(book, lines, is_open=True)[at] for at in (0, 3)])):
            for at, sign in enumerate(parts):
                if at < head and sign == "{":
                    pile.append(waiting)
                elif sign == "}":
                    pile.pop()
                elif at >= head and sign in book.brackets:
                    pile.append(index)
                elif at >= head and sign in book.brackets.values():
                    pile.pop()
            waiting = index
        return pile


class TestExamples(Refusing):
    def test_those_of_the_document(self):
        project = Project(py_book())
        self.assertEqual([project.put(at, loop_text()[at]) for at in range(4)],
                         [((1, "new"),), ((2, "new"),), ((3, "new"),), ((4, "new"),)])
        self.assertEqual([project.pin(("inside", 3, 2)), project.move(2, 4, 2), project.trial(("move", 3, 3, -3)),
                          project.undo(), project.marks], [(), (), ((),), (), (1, 2, 3, 4)])
        self.assert_refused(Refused, ("inside", 3, 2), project.move, 3, 3, -4)
        self.assertEqual([module.MAX_PINS, module.MAX_CHANGES], [10, 200])

    def test_others_like_them(self):
        project = with_lines(hs_book(), case_text())
        self.assertEqual([str(project), project.book, project.text, project.marks, project.pins, project.log],
                         ["5 lines, 0 pins, read", hs_book(), case_text(), (1, 2, 3, 4, 5), (), ("put",) * 5])
        self.assertEqual([project.use(py_book()), str(project), project.log[5:]],
                         [((2, "signs"), (3, "signs"), (4, "signs"), (5, "signs")), "5 lines, 0 pins, broken at 1",
                          ("use",)])
        self.assertEqual([project.remove(3), project.change(2, (2, ("e",))), project.undo(many=2), project.undo()],
                         [((3, "gone"),), (), ((3, "new"),),
                          ((2, "signs"), (3, "signs"), (4, "signs"), (5, "signs"))])
        self.assertEqual([list(project), 3 in project, 6 in project, project.line_with(3), project.reading()],
                         [[1, 2, 3, 4, 5], True, False, (6, ("b",)), Reading(hs_book(), case_text())])

    def test_an_empty_project(self):
        project = Project(ya_book())
        self.assertEqual(told(project), [ya_book(), Text(), (), (), (), "0 lines, 0 pins, read", 0])
        self.assertEqual([list(project), project.trial(), project.undo(many=0), project.redo(many=0)], [[], (), (), ()])
        self.assertEqual([project.pin(("read",)), project.does_hold(("read",)), str(project)],
                         [(), True, "0 lines, 1 pins, read"])

    def test_marks(self):
        project = Project(py_book())
        project.put(0, (0, ("a",)))
        project.put(0, (0, ("b",)))
        self.assertEqual([project.marks, project.put(1, (0, ("c",))), project.marks], [(2, 1), ((3, "new"),), (2, 3, 1)])
        # A put that is taken back gives its mark back, a line that is removed does not.
        self.assertEqual([project.undo(), project.put(2, (0, ("d",))), project.remove(3), project.put(0, (0, ("e",)))],
                         [((3, "gone"),), ((3, "new"),), ((3, "gone"),), ((4, "new"),)])
        self.assertEqual([project.undo(many=3), project.redo(many=3), project.marks],
                         [((4, "gone"),), ((4, "new"),), (4, 2, 1)])
        self.assertEqual([project.undo(), project.marks, project.put(0, (0, ("f",)))], [((4, "gone"),), (2, 1),
                                                                                        ((4, "new"),)])
        self.assertEqual([mark in project for mark in (True, 1, 2, 3, "1", None, (1,), SIXTY_ONE, 0)],
                         [False, True, True, False, False, False, False, False, False])

    def test_changes_by_which_all_stays(self):
        project = with_lines(py_book(), loop_text())
        news = [project.change(1, (0, ("def",))), project.move(1, 4, 0), project.use(py_book())]
        self.assertEqual([news, project.log], [[(), (), ()], ("put",) * 4 + ("change", "move", "use")])
        self.assertEqual([project.undo(many=3), len(project.log)], [(), 4])

    def test_names(self):
        calls = {Project: "(book)", Project.put: "(self, at, line)", Project.remove: "(self, mark)",
                 Project.change: "(self, mark, line)", Project.move: "(self, first, last, by)",
                 Project.use: "(self, book)", Project.pin: "(self, pin)", Project.unpin: "(self, pin)",
                 Project.does_hold: "(self, pin)", Project.reading: "(self)", Project.line_with: "(self, mark)",
                 Project.trial: "(self, *changes)", Project.block: "(self)", Project.during: "(self, call)",
                 Project.undo: "(self, *, many=1)", Project.redo: "(self, *, many=1)", Project.twin: "(self)"}
        for call, parameters in calls.items():
            self.assertEqual(str(inspect.signature(call)), parameters, call)


class TestPins(Refusing):
    def test_each_kind(self):
        project = with_lines(py_book(), loop_text())
        holds = [("read",), ("signs", 1, (";", "def")), ("signs", 3, ("{", "b")), ("inside", 3, 2), ("inside", 3, 1),
                 ("inside", 2, 1), ("inside", 4, 1), ("over", 3, 2, 4), ("over", 1, 3, -8), ("over", 2, 2, 0),
                 ("over", 4, 2, -SIXTY)]
        fails = [("signs", 1, ("def",)), ("signs", 3, ()), ("inside", 4, 2), ("inside", 1, 1), ("inside", 1, 2),
                 ("inside", 2, 2), ("inside", 2, 3), ("over", 3, 2, 5), ("over", 2, 2, 1), ("over", 4, 2, SIXTY)]
        for pin in holds:
            self.assertIs(project.does_hold(pin), True, pin)
        for pin in fails:
            self.assertIs(project.does_hold(pin), False, pin)
            self.assert_refused(Refused, pin, project.pin, pin)
        self.assertEqual([project.pin(pin) for pin in holds[:10]], [()] * 10)
        self.assertEqual([project.pins, project.log[4:]], [tuple(holds[:10]), ("pin",) * 10])

    def test_brackets_and_words(self):
        project = with_lines(py_book(), Text((0, ("a", "lp", "b")), (3, ("if",)), (5, ("lp", "rp", "c")), (0, ("rp",))))
        for mark, others in ((1, (1,)), (2, (1,)), (3, (1, 2)), (4, ())):
            found = [other for other in (1, 2, 3, 4) if project.does_hold(("inside", mark, other))]
            self.assertEqual(found, list(others))
        # It is the block of this very line, not of one like it.
        project = with_lines(hs_book(), Text((0, ("of",)), (2, ("a",)), (0, ("of",)), (2, ("b",))))
        self.assertEqual([project.does_hold(("inside", 4, 3)), project.does_hold(("inside", 4, 1))], [True, False])

    def test_lines_that_are_broken(self):
        project = with_lines(py_book(), Text((0, ("if",)), (2, ("a",)), (3, ("b",)), (0, ("c",))))
        self.assertEqual(str(project), "4 lines, 0 pins, broken at 2")
        pins = [("read",), ("inside", 2, 1), ("inside", 3, 1), ("signs", 2, ("{", "a")), ("signs", 3, ()),
                ("signs", 4, ()), ("over", 3, 2, 1)]
        self.assertEqual([project.does_hold(pin) for pin in pins], [False, True, False, True, False, False, True])
        project.pin(("inside", 2, 1))
        self.assert_refused(Refused, ("inside", 2, 1), project.move, 2, 2, -2)

    def test_the_first_pin_that_would_not_hold(self):
        project = with_lines(py_book(), loop_text())
        for pin in (("over", 3, 1, 1), ("read",), ("inside", 3, 2), ("signs", 4, ("}", ";", "c"))):
            project.pin(pin)
        before = told(project)
        for call, cause in ((lambda: project.move(3, 3, -4), ("read",)), (lambda: project.move(3, 3, -8),
                                                                           ("over", 3, 1, 1)),
                            (lambda: project.move(3, 4, -1), ("read",)),
                            (lambda: project.use(hs_book()), ("inside", 3, 2)),
                            (lambda: project.put(4, (9, ("z",))), ("read",)),
                            (lambda: project.change(4, (4, ("d",))), ("signs", 4, ("}", ";", "c")))):
            self.assert_refused(Refused, cause, call)
            self.assertEqual(told(project), before)
        self.assertEqual([project.unpin(("read",)), project.pins[1]], [(), ("inside", 3, 2)])
        self.assert_refused(Refused, ("inside", 3, 2), project.move, 3, 3, -4)

    def test_lines_of_pins(self):
        project = with_lines(py_book(), loop_text())
        project.pin(("over", 3, 2, 1))
        project.pin(("signs", 4, ("}", ";", "c")))
        for mark in (2, 3, 4):
            self.assert_refused(InvalidOperation, "no", project.remove, mark)
        project.pin(("read",))
        # A lacking line comes ahead of a pin that would not hold.
        self.assert_refused(InvalidOperation, "no", project.remove, 3)
        project.unpin(("over", 3, 2, 1))
        self.assert_refused(Refused, ("signs", 4, ("}", ";", "c")), project.remove, 2)
        project.unpin(("signs", 4, ("}", ";", "c")))
        self.assert_refused(Refused, ("read",), project.remove, 3)

    def test_ten_pins(self):
        project = with_lines(py_book(), loop_text())
        for least in range(10):
            project.pin(("over", 1, 3, -199 + least))
        self.assert_refused(TooMany, 10, project.pin, ("over", 1, 3, -8))
        self.assert_refused(TooMany, 10, project.pin, ("over", 1, 3, 8))
        self.assert_refused(InvalidOperation, "no", project.pin, ("over", 1, 3, -199))
        self.assert_refused(InvalidOperation, "no", project.pin, ("over", 1, 5, -199))
        self.assertEqual([project.unpin(("over", 1, 3, -195)), project.pin(("read",)), len(project.pins)], [(), (), 10])
        self.assertEqual(project.pins[-1], ("read",))

    def test_values_that_are_no_pins(self):
        project = with_lines(py_book(), loop_text())
        project.pin(("over", 3, 2, 1))
        wrong = [("read", 1), ("signs", 1), ("signs", 1, (";", "def"), 1), ("signs", 5, ()), ("signs", 0, ()),
                 ("signs", True, (";", "def")), ("signs", 1, [";", "def"]), ("signs", 1, ("Def",)), ("signs", 1, ";"),
                 ("inside", 3), ("inside", 3, 5), ("inside", 5, 3), ("inside", 3, True), ("inside", 3, 2, 1),
                 ("over", 3, 2), ("over", 3, 2, True), ("over", 3, 2, SIXTY_ONE), ("over", 3, 2, "1"), ("over", 3, 5, 1),
                 ("over", 5, 3, 1), ["read"], ("Read",), ("read",) * 2, "read", (("read",),), ([],), ("over", [], 2, 1)]
        for value in wrong + odd_values():
            for call in (project.pin, project.unpin, project.does_hold):
                self.assert_refused(InvalidOperation, "no", call, value)
        self.assert_refused(InvalidOperation, "no", project.unpin, ("over", 3, 2, 2))
        self.assert_refused(InvalidOperation, "no", project.pin, ("over", 3, 2, 1))
        self.assertEqual(project.pins, (("over", 3, 2, 1),))


class TestStepByStep(unittest.TestCase):
    def some_change(self, chance, project):
        """A change that is refused by nothing but a pin."""
        marks = project.marks
        word = chance.choice(("put", "put", "remove", "change", "change", "move", "move", "use", "pin", "unpin"))
        line = random_text(chance, project.book, 1, (0, 0, 1, 2))[0]
        if word == "put" and len(marks) < 60:
            return (word, chance.randint(0, len(marks)), line)
        if word == "use":
            return (word, chance.choice((project.book.joining(deep="joins"), project.book.joining(gap="breaks"))))
        if word == "unpin" and project.pins:
            return (word, chance.choice(project.pins))
        if marks and word == "remove":
            free = [mark for mark in marks if not any(mark in pin[1:3] for pin in project.pins)]
            return (word, chance.choice(free)) if free else ("put", 0, line)
        if marks and word == "change":
            return (word, chance.choice(marks), line)
        if marks and word == "move":
            first, last = sorted(chance.choice(range(len(marks))) for _ in range(2))
            by = chance.choice((0, 1, 2))
            return (word, marks[first], marks[last], by)
        if marks and word == "pin" and len(project.pins) < 5:
            one, other = chance.choice(marks), chance.choice(marks)
            pins = [("read",), ("inside", one, other), ("over", one, other, chance.randint(-3, 1))]
            at = project.marks.index(one)
            if at < len(project.reading().heads):
                pins.append(("signs", one, project.reading().parts[at]))
            pin = chance.choice(pins)
            if pin not in project.pins:
                return (word, pin)
        return ("put", 0, line) if len(marks) < 60 else ("use", project.book)

    def check(self, project, plain):
        book, lines, pins, _ = plain.stand
        self.assertEqual([project.book, list(project.text), list(project), list(project.pins), list(project.log)],
                         [book, [line for _, line in lines], [mark for mark, _ in lines], pins,
                          [word for word, _ in plain.done]])
        fault = naive.read(book, [line for _, line in lines])[1]
        end = "read" if fault is None else f"broken at {fault[0]}"
        self.assertEqual(str(project), f"{len(lines)} lines, {len(pins)} pins, {end}")

    def test_many_changes(self):
        chance = random.Random(161)
        refused = 0
        for _ in range(60):
            book = random_book(chance).joining(deep=chance.choice((None, "joins")))
            project, plain = Project(book), Plain(book)
            for _ in range(40):
                if chance.random() < .2 and plain.done:
                    many = chance.randint(0, min(3, len(plain.done)))
                    self.assertEqual(project.undo(many=many), plain.turn(plain.done, plain.undone, many))
                elif chance.random() < .2 and plain.undone:
                    many = chance.randint(0, min(3, len(plain.undone)))
                    self.assertEqual(project.redo(many=many), plain.turn(plain.undone, plain.done, many))
                else:
                    change = self.some_change(chance, project)
                    expected = plain.do(*change)
                    if expected and isinstance(expected[0], str):
                        refused += 1
                        for call in (project.trial, lambda made: getattr(project, made[0])(*made[1:])):
                            with self.assertRaises(Refused) as caught:
                                call(change)
                            self.assertEqual(caught.exception.cause, expected)
                    else:
                        self.assertEqual(project.trial(change), (expected,))
                        self.assertEqual(getattr(project, change[0])(*change[1:]), expected)
                self.check(project, plain)
                one, other = (chance.choice(project.marks or (0,)) for _ in range(2))
                if one:
                    for pin in (("inside", one, other), ("over", one, other, chance.randint(-2, 2)), ("read",)):
                        self.assertIs(project.does_hold(pin), plain.holds(plain.stand, pin))
        self.assertGreater(refused, 60)


class TestTrials(Refusing):
    def setUp(self):
        self.project = with_lines(py_book(), loop_text())
        self.project.pin(("inside", 3, 2))
        self.project.move(2, 4, 2)
        self.project.undo()
        self.before = told(self.project)

    def tearDown(self):
        """All is as it was, also what can be done again."""
        self.assertEqual(told(self.project), self.before)
        self.assertEqual([self.project.redo(), self.project.text.columns], [(), (0, 6, 10, 6)])

    def test_trials(self):
        project = self.project
        self.assertEqual(project.trial(("put", 4, (0, ("x",))), ("remove", 5), ("put", 0, (0, ("y",)))),
                         (((5, "new"),), ((5, "gone"),), ((6, "new"),)))
        self.assertEqual(project.trial(("unpin", ("inside", 3, 2)), ("move", 3, 3, -8), ("use", hs_book())),
                         ((), ((3, "signs"), (4, "signs")), ((2, "signs"), (3, "signs"), (4, "signs"))))
        self.assertEqual(project.trial(("pin", ("read",)), ("change", 3, (9, ("b",)))), ((), ()))
        self.assertEqual(project.trial(), ())

    def test_trials_that_fail(self):
        project = self.project
        self.assert_refused(Refused, ("inside", 3, 2), project.trial, ("put", 4, (0, ("x",))), ("move", 3, 3, -4))
        self.assert_refused(InvalidNumber, 5, project.trial, ("put", 4, (0, ("x",))), ("remove", 5), ("remove", 5))
        self.assert_refused(InvalidNumber, 9, project.trial, ("remove", 9), ("put", 9, (0, ("x",))))
        self.assert_refused(TooMany, 200, project.trial, *(("use", py_book()),) * 196)
        self.assertEqual(len(project.trial(*(("use", py_book()),) * 195)), 195)
        wrong = [("put", 4), ("put", 4, (0, ("x",)), 1), ("remove",), ("change", 1), ("move", 1, 2), ("use",), ("pin",),
                 ("unpin", 1, 2), ("undo",), ("trial",), ("Put", 4, (0, ("x",))), (), ["remove", 1], "remove", ([], 1),
                 ({}, 1), (None, 1), ("twin",), ("", 1)]
        for value in wrong + odd_values():
            self.assert_refused(InvalidOperation, "no", project.trial, value)
            self.assert_refused(InvalidOperation, "no", project.trial, ("remove", 9), value)

    def test_blocks(self):
        project = self.project
        with project.block() as same:
            self.assertIs(same, project)
            same.put(4, (0, ("x",)))
            self.assert_refused(NothingToUndo, 1, same.redo)
            with project.block() as inner:
                inner.undo(many=4)
            self.assertEqual([project.marks, len(project.log)], [(1, 2, 3, 4, 5), 6])
        self.assertEqual(told(project), self.before)
        with self.assertRaises(KeyError):
            with project.block():
                project.redo()
                project.use(py_book().joining(gap="joins"))
                raise KeyError("goes on")
        with self.assertRaises(Refused):
            with project.block():
                project.put(4, (0, ("x",)))
                project.move(3, 3, -4)

    def test_during(self):
        project = self.project
        self.assertEqual(project.during(lambda same: (same is project, same.remove(4), same.marks)),
                         (True, ((4, "gone"),), (1, 2, 3)))
        self.assertIsNone(project.during(lambda same: None))
        with self.assertRaises(InvalidNumber):
            project.during(lambda same: (same.remove(4), same.remove(4)))
        self.assertEqual(project.during(lambda same: (same.during(lambda again: again.undo(many=2)), len(same.log))),
                         (((4, "gone"),), 5))

    def test_twins(self):
        project = self.project
        twin = project.twin()
        self.assertTrue(twin == project and twin is not project)
        self.assertEqual(told(twin), self.before)
        self.assertEqual([twin.redo(), twin.text.columns, project.text.columns], [(), (0, 6, 10, 6), (0, 4, 8, 4)])
        twin.undo(many=5)
        self.assertEqual([twin.text.lines, len(twin.log), twin.redo(many=2)], [loop_text().lines[:1], 1,
                                                                              ((2, "new"), (3, "new"))])
        twin.put(0, (0, ("y",)))
        self.assertEqual(twin.marks, (4, 1, 2, 3))
        self.assertFalse(twin == project)

    def test_errors_change_nothing(self):
        project = self.project
        for call in (lambda: project.move(3, 3, -4), lambda: project.remove(3), lambda: project.put(9, (0, ("a",))),
                     lambda: project.undo(many=6), lambda: project.redo(many=2), lambda: project.pin(("inside", 3, 2)),
                     lambda: project.use(None), lambda: project.change(1, None)):
            with self.assertRaises(Exception):
                call()
            self.assertEqual(told(project), self.before)


class TestHistory(Refusing):
    def test_taking_back(self):
        project = with_lines(py_book(), loop_text())
        project.pin(("read",))
        self.assertEqual([project.undo(), project.pins, project.undo(many=4), project.marks, project.log],
                         [(), (), ((1, "gone"), (2, "gone"), (3, "gone"), (4, "gone")), (), ()])
        for many in (1, 2, 200, SIXTY):
            self.assert_refused(NothingToUndo, many, project.undo, many=many)
        self.assert_refused(NothingToUndo, 1, project.undo)
        self.assertEqual([project.redo(many=3), project.log], [((1, "new"), (2, "new"), (3, "new")), ("put",) * 3])
        self.assert_refused(NothingToUndo, 3, project.redo, many=3)
        self.assertEqual([project.redo(many=2), project.pins, project.redo(many=0)], [((4, "new"),), (("read",),), ()])
        self.assert_refused(NothingToUndo, 1, project.redo)
        self.assertEqual([project.undo(many=2), project.undo(many=0), project.redo(), project.marks],
                         [((4, "gone"),), (), ((4, "new"),), (1, 2, 3, 4)])
        project.use(py_book())
        self.assert_refused(NothingToUndo, 1, project.redo)

    def test_numbers(self):
        project = with_lines(py_book(), loop_text())
        for call in (project.undo, project.redo):
            for value in [-1, -SIXTY] + no_integers():
                self.assert_refused(InvalidNumber, value, call, many=value)

    def test_two_hundred_changes(self):
        project = with_lines(py_book(), loop_text())
        for _ in range(196):
            project.use(py_book())
        before = told(project)
        for call in (lambda: project.use(hs_book()), lambda: project.put(0, (0, ("a",))), lambda: project.remove(4),
                     lambda: project.pin(("read",)), lambda: project.move(1, 1, 0), lambda: project.pin(("inside", 4, 2))):
            self.assert_refused(TooMany, 200, call)
        self.assert_refused(InvalidOperation, "no", project.unpin, ("read",))
        self.assert_refused(InvalidBook, "no", project.use, None)
        self.assertEqual([told(project), len(project.log)], [before, 200])
        project.undo()
        self.assertEqual([project.redo(), project.undo(), project.pin(("read",)), len(project.log)], [(), (), (), 200])
        # The bound of changes comes ahead of what a pin refuses, and of a line that a pin lacks.
        project.undo(many=2)
        project.pin(("over", 4, 1, 1))
        project.use(py_book())
        self.assert_refused(TooMany, 200, project.remove, 4)
        self.assert_refused(TooMany, 200, project.move, 4, 4, -4)
        self.assertEqual(project.undo(many=200), ((1, "gone"), (2, "gone"), (3, "gone"), (4, "gone")))

    def test_sixty_lines(self):
        project = with_lines(py_book(), Text(*[(0, ("a",))] * 60))
        self.assert_refused(TooMany, 60, project.put, 60, (0, ("a",)))
        self.assert_refused(InvalidNumber, 61, project.put, 61, (0, ("a",)))
        self.assertEqual([project.remove(17), project.put(0, (0, ("a",)))], [((17, "gone"),), ((61, "new"),)])
        for _ in range(138):
            project.use(py_book())
        self.assertEqual(len(project.log), 200)
        self.assert_refused(TooMany, 60, project.put, 60, (0, ("a",)))

    def test_equality(self):
        one, other = with_lines(py_book(), loop_text()), with_lines(py_book(), loop_text())
        self.assertTrue(one == other)
        one.use(py_book())
        self.assertTrue(one == other)
        for pins in ((("read",), ("inside", 3, 2)), (("inside", 3, 2), ("read",))):
            project = one if pins[0] == ("read",) else other
            for pin in pins:
                project.pin(pin)
        self.assertFalse(one == other)
        self.assertTrue(one != other)
        made = [with_lines(hs_book(), loop_text()), with_lines(py_book(), loop_text().part(0, 3)), Project(py_book())]
        changed = with_lines(py_book(), loop_text())
        changed.move(3, 3, 1)
        made.append(changed)
        again = with_lines(py_book(), loop_text())
        again.remove(4)
        again.put(3, loop_text()[3])
        for value in made + [again, loop_text(), Reading(py_book(), loop_text())] + odd_values():
            self.assertIs(with_lines(py_book(), loop_text()) == value, False)


class TestErrors(Refusing):
    def test_making(self):
        for value in not_of(type(py_book())):
            self.assert_refused(InvalidBook, "no", Project, value)

    def test_arguments(self):
        project = with_lines(py_book(), loop_text())
        project.remove(1)
        before = told(project)
        for value in [4, -1, SIXTY] + no_integers():
            self.assert_refused(InvalidNumber, value, project.put, value, None)
        for value in [(0, ()), (200, ("a",)), (True, ("a",)), [0, ("a",)], loop_text()] + odd_values():
            self.assert_refused(InvalidText, "no", project.put, 0, value)
            self.assert_refused(InvalidText, "no", project.change, 2, value)
        for value in [1, 0, -1, 5, SIXTY] + no_integers():
            self.assert_refused(InvalidNumber, value, project.remove, value)
            self.assert_refused(InvalidNumber, value, project.line_with, value)
            self.assert_refused(InvalidNumber, value, project.change, value, None)
            self.assert_refused(InvalidNumber, value, project.move, value, None, None)
            self.assert_refused(InvalidNumber, value, project.move, 3, value, None)
        for value in no_integers() + [192, -5, SIXTY, -SIXTY]:
            self.assert_refused(InvalidOperation, "no", project.move, 3, 2, value)
            self.assert_refused(InvalidNumber, value, project.move, 2, 4, value)
        for value in not_of(type(py_book())):
            self.assert_refused(InvalidBook, "no", project.use, value)
        self.assertEqual(told(project), before)

    def test_the_columns_of_all_lines_are_looked_at(self):
        project = with_lines(py_book(), Text((0, ("a",)), (0, ("if",)), (199, ("b",))))
        self.assert_refused(InvalidNumber, 1, project.move, 1, 3, 1)
        self.assert_refused(InvalidNumber, -1, project.move, 2, 3, -1)
        self.assertEqual([project.move(3, 3, -198), project.text.columns], [(), (0, 0, 1)])

    def test_it_changes_by_its_methods_only(self):
        project = with_lines(py_book(), loop_text())
        for name in ("book", "text", "marks", "pins", "log"):
            with self.assertRaises(AttributeError):
                setattr(project, name, 1)
        text, marks, log = project.text, project.marks, project.log
        project.remove(2)
        self.assertEqual([text, marks, log], [loop_text(), (1, 2, 3, 4), ("put",) * 4])


if __name__ == "__main__":
    unittest.main()
