"""States: [0.14], [5.1] and [5.2], and what stands under stage 5."""

import inspect
import itertools
import random
import unittest

from offside.base.books import Book
from offside.base.texts import Text
from offside.errors import InvalidBook, InvalidNumber, InvalidOperation, InvalidState
from offside.read import states as module
from offside.read.reading import Reading
from offside.read.states import (are_alike, class_of, is_regular, is_state, is_telling, states_upto, telling, text_to)
from tests import naive
from tests.values import (SIXTY, Refusing, hs_book, kinds_of_books, not_of, odd_values, py_book, random_book,
                          random_text, ya_book)


def rich_book():
    """o has an ender, p and q have none; p can stand on its own column."""
    openers = {"o": ("deeper", "filled"), "p": ("level", "empty"), "q": ("deeper", "empty")}
    return Book(openers, {"e": "o"}, {"l": "r", "m": "n"}, deep="breaks", gap="breaks")


def regular_state(chance, book, most, columns):
    """A regular state of up to so many blocks."""
    blocks = [(column, word) for column in columns for word in book.openers]
    blocks += [(-1, word) for word in book.brackets]
    pile = ()
    for _ in range(chance.randint(0, most) if blocks else 0):
        block = chance.choice(blocks)
        if naive.is_regular(book, pile + (block,)):
            pile += (block,)
    return pile[:40], chance.choice(("",) + tuple(book.openers))


def state_near(chance, book, state):
    """A state that is like this one but for one block, or for what is waiting."""
    pile = list(state[0])
    if not pile or chance.random() < 0.2:
        return state[0], chance.choice(("",) + tuple(book.openers))
    at = chance.randrange(len(pile))
    way = chance.randrange(3)
    if way == 0:
        del pile[at]
    elif pile[at][0] == -1:
        pile[at] = (-1, chance.choice(tuple(book.brackets)))
    elif way == 1:
        pile[at] = (pile[at][0], chance.choice(tuple(book.openers)))
    else:
        pile[at] = (min(198, pile[at][0] + 1), pile[at][1])
    return tuple(pile), state[1]


class TestExample(unittest.TestCase):
    def test_the_documents(self):
        py, hs, ya = py_book(), hs_book(), ya_book()
        found = [class_of(py, (((4, "if"),), "def")), class_of(hs, (((2, "let"), (-1, "lp")), "of")),
                 are_alike(py, (((4, "if"),), ""), (((4, "def"),), ""))]
        expected = [(((4, ""),), ("deeper", "filled", "")), (((2, "let"), (-1, "lp")), ("", "empty", "")), True]
        self.assertEqual(found, expected)
        found = [is_regular(ya, (((0, "key"), (0, "key")), "")), is_regular(py, (((4, "if"), (4, "if")), "")),
                 is_regular(py, (((4, "if"), (-1, "lp"), (2, "if")), ""))]
        self.assertEqual(found, [True, False, True])
        one, other = (((4, "let"),), ""), (((4, "of"),), "")
        found = [are_alike(hs, one, other), is_telling(hs, one, other, Text((0, ("in",)))), telling(hs, one, one)]
        self.assertEqual(found, [False, True, None])

    def test_names(self):
        self.assertEqual(module.MAX_PILE, 40)
        told = {is_state: "(book, value)", is_regular: "(book, value)", class_of: "(book, state)",
                are_alike: "(book, one, other)", text_to: "(book, state)", telling: "(book, one, other)",
                is_telling: "(book, one, other, value)", states_upto: "(book, columns, most)"}
        for call, parameters in told.items():
            self.assertEqual(str(inspect.signature(call)), parameters, call)


class TestIsState(Refusing):
    def both(self, book, value):
        found = (is_state(book, value), is_regular(book, value))
        self.assertIs(type(found[0]), bool)
        self.assertIs(type(found[1]), bool)
        return found

    def test_regular_ones(self):
        for state in (((), ""), ((), "o"), (((1, "o"),), "q"), (((0, "p"), (0, "p"), (1, "o")), ""),
                      (((5, "o"), (-1, "l"), (0, "o"), (-1, "m"), (-1, "l")), "o"), (((0, "p"), (198, "o")), "p")):
            self.assertEqual(self.both(rich_book(), state), (True, True), state)

    def test_those_that_are_not_regular(self):
        for pile in (((0, "o"),), ((0, "p"), (0, "o")), ((3, "o"), (3, "o")), ((3, "o"), (2, "p")),
                     ((3, "o"), (2, "o")), ((-1, "l"), (3, "p"), (2, "p")), ((3, "o"), (3, "q"))):
            self.assertEqual(self.both(rich_book(), (pile, "")), (True, False), pile)

    def test_bounds(self):
        pile = tuple((at, "o") for at in range(1, 41))
        self.assertEqual(self.both(rich_book(), (pile, "o")), (True, True))
        self.assertEqual(self.both(rich_book(), (pile + ((41, "o"),), "")), (False, False))
        self.assertEqual(self.both(rich_book(), (((-1, "l"),) * 40, "")), (True, True))
        self.assertEqual(self.both(rich_book(), (((-1, "l"),) * 41, "")), (False, False))
        for column, expected in ((0, (True, True)), (198, (True, True)), (199, (False, False)), (-1, (False, False))):
            self.assertEqual(self.both(rich_book(), (((column, "p"),), "")), expected)

    def test_what_is_none(self):
        wrong = [(), ((),), ((), "", ""), [(), ""], ([], ""), ((), None), ((), "e"), ((), "l"), ((), "x"), ((), ()),
                 (((1, "e"),), ""), (((1, "x"),), ""), (((1, ""),), ""), (((0, ""),), ""), (((1, "l"),), ""),
                 (((-1, "r"),), ""), (((-1, "o"),), ""), (((True, "o"),), ""), (((False, "p"),), ""),
                 (((1,),), ""), (((1, "o", 1),), ""), (([1, "o"],), ""), (("o",), ""), ((("o", 1),), ""),
                 (((None, "o"),), ""), (((10 ** 99, "o"),), ""), (((1, ["o"]),), ""), (((1, ("o",)),), ""),
                 {"pile": (), "waiting": ""}, ((), {}), ((), [])]
        for value in wrong + odd_values():
            self.assertEqual(self.both(rich_book(), value), (False, False), value)

    def test_of_other_books(self):
        self.assertEqual(self.both(py_book(), (((4, "of"),), "")), (False, False))
        self.assertEqual(self.both(Book(), ((), "")), (True, True))
        self.assertEqual(self.both(Book(), ((), "if")), (False, False))

    def test_beside_the_plain_program(self):
        blocks = [(column, word) for column in (0, 1, 2) for word in ("o", "p")] + [(-1, "l")]
        for many in range(4):
            for pile in itertools.product(blocks, repeat=many):
                self.assertEqual(self.both(rich_book(), (pile, "")), (True, naive.is_regular(rich_book(), pile)))

    def test_texts_come_to_regular_states_only(self):
        chance = random.Random(2)
        for _ in range(2000):
            book = random_book(chance)
            text = random_text(chance, book, chance.randint(0, 6), (0, 1, 2, 198))
            for state in Reading(book, text).states:
                self.assertTrue(is_regular(book, state))

    def test_errors(self):
        for value in not_of(Book):
            self.assert_refused(InvalidBook, "no", is_state, value, ((), ""))
            self.assert_refused(InvalidBook, "no", is_regular, value, None)


class TestClasses(Refusing):
    def test_blocks(self):
        state = (((1, "o"), (2, "p"), (3, "q"), (-1, "m"), (0, "p")), "")
        self.assertEqual(class_of(rich_book(), state), (((1, "o"), (2, ""), (3, ""), (-1, "m"), (0, "")), ()))
        self.assertEqual(class_of(rich_book(), ((), "")), ((), ()))

    def test_what_waits(self):
        waits = {"o": ("deeper", "filled", "o"), "p": ("level", "empty", ""), "q": ("deeper", "empty", "")}
        for word, told in waits.items():
            self.assertEqual(class_of(rich_book(), ((), word)), ((), told))
            self.assertEqual(class_of(rich_book(), (((-1, "l"), (2, "o")), word))[1], told)
            self.assertEqual(class_of(rich_book(), (((2, "o"), (-1, "l")), word))[1], ("",) + told[1:])

    def test_are_alike(self):
        alike = [((((4, "p"),), ""), (((4, "q"),), "")), ((((-1, "l"),), "p"), (((-1, "l"),), "q")),
                 ((((4, "p"), (-1, "l")), "q"), (((4, "q"), (-1, "l")), "p")), (((), ""), ((), ""))]
        for one, other in alike:
            self.assertIs(are_alike(rich_book(), one, other), True)
            self.assertIsNone(telling(rich_book(), one, other))
        unlike = [(((), "p"), ((), "q")), (((), "o"), ((), "q")), (((), ""), ((), "q")), ((((4, "o"),), ""), ((), "")),
                  ((((4, "o"),), ""), (((4, "p"),), "")), ((((4, "o"),), ""), (((5, "o"),), "")),
                  ((((-1, "l"),), ""), (((-1, "m"),), "")), ((((-1, "l"),), "o"), (((-1, "l"),), "q")),
                  ((((1, "p"), (1, "p")), ""), (((1, "p"),), "")), ((((0, "p"),), ""), ((), ""))]
        for one, other in unlike:
            self.assertIs(are_alike(rich_book(), one, other), False)
            self.assertIs(are_alike(rich_book(), other, one), False)
            text = telling(rich_book(), one, other)
            self.assertIs(is_telling(rich_book(), one, other, text), True)
            self.assertIs(is_telling(rich_book(), other, one, text), True)

    def test_errors(self):
        good, wrong = ((), ""), (((0, "o"),), "")
        for value in not_of(Book):
            for call in (class_of, text_to):
                self.assert_refused(InvalidBook, "no", call, value, wrong)
            for call in (are_alike, telling):
                self.assert_refused(InvalidBook, "no", call, value, wrong, wrong)
            self.assert_refused(InvalidBook, "no", is_telling, value, wrong, wrong, None)
        for value in odd_values() + [wrong, (((199, "o"),), ""), ((), "x"), (((-1, "l"),) * 41, "")]:
            for call in (class_of, text_to):
                self.assert_refused(InvalidState, "no", call, rich_book(), value)
            for call in (are_alike, telling, lambda *args: is_telling(*args, Text())):
                self.assert_refused(InvalidState, "no", call, rich_book(), value, good)
                self.assert_refused(InvalidState, "no", call, rich_book(), good, value)


class TestTextTo(unittest.TestCase):
    def assert_leads(self, book, state):
        text = text_to(book, state)
        self.assertLessEqual(len(text), len(state[0]) + 1)
        reading = Reading(book, text, is_open=True)
        self.assertEqual([reading.fault, reading.last_state], [None, state], (book.text, str(text)))

    def test_small_states(self):
        for book in kinds_of_books():
            for state in states_upto(book, (0, 1, 198), 2):
                self.assert_leads(book, state)

    def test_large_states(self):
        for pile in (tuple((at, "o") for at in range(159, 199)), ((0, "p"),) * 40, ((-1, "l"),) * 40,
                     ((-1, "l"), (0, "o")) * 20, ((0, "p"), (-1, "m")) * 20, ((-1, "l"),) * 39 + ((198, "q"),),
                     ((3, "o"),) + ((-1, "l"),) * 6 + ((0, "q"),) + ((-1, "m"),) * 7):
            for waiting in ("", "o", "p", "q"):
                self.assert_leads(rich_book(), (pile, waiting))

    def test_any_states(self):
        chance = random.Random(12)
        for _ in range(1500):
            book = random_book(chance)
            state = regular_state(chance, book, chance.choice((3, 12, 40)), chance.choice(((0, 1), (1, 5, 198))))
            self.assert_leads(book, state)

    def test_a_book_with_all_plain_words_of_the_program(self):
        book = Book({"x": ("deeper", "filled"), "xa": ("level", "empty")}, {"xb": "x"}, {"xc": "xd", "xe": "xf"})
        for state in states_upto(book, (0, 3), 2):
            self.assert_leads(book, state)
            other = (state[0], "x" if state[1] != "x" else "xa")
            self.assertEqual(are_alike(book, state, other), telling(book, state, other) is None)


class TestTelling(unittest.TestCase):
    def assert_told(self, book, one, other):
        """The states are alike and read some texts alike, or the told text tells them apart."""
        text = telling(book, one, other)
        self.assertEqual(text is None, are_alike(book, one, other))
        if text is not None:
            self.assertLessEqual(len(text), 60)
            self.assertTrue(is_telling(book, one, other, text))
            found = [naive.read(book, text.lines, state)[:2] for state in (one, other)]
            self.assertNotEqual(found[0], found[1], (book.text, one, other, str(text)))

    def test_all_small_states(self):
        for book in kinds_of_books()[::3]:
            states = list(states_upto(book, (0, 2), 2))
            for one, other in itertools.product(states[::2], states[1::2]):
                self.assert_told(book, one, other)

    def test_states_near_one_another(self):
        chance = random.Random(13)
        for _ in range(1500):
            book = random_book(chance)
            one = regular_state(chance, book, chance.choice((3, 12, 60)), chance.choice(((0, 1), (1, 5, 197, 198))))
            other = state_near(chance, book, one)
            if is_regular(book, other):
                self.assert_told(book, one, other)

    def test_deep_down(self):
        book = rich_book()
        for top in (((-1, "l"),) * 38, tuple((at, "p") for at in range(5, 43)), ((4, "p"),) * 38,
                    tuple((at, "o") for at in range(160, 198)), ((-1, "l"), (0, "q")) * 19):
            for waiting in ("", "o", "p", "q"):
                one, other = (((2, "o"),) + top, waiting), (((2, "q"),) + top, waiting)
                self.assert_told(book, one, other)
                self.assert_told(book, one, (((3, "o"),) + top, waiting))
                self.assert_told(book, (((2, "p"), (2, "p")) + top, waiting), (((2, "p"),) + top, waiting))
                self.assert_told(book, (((0, "p"),) + top, waiting), (top, waiting))

    def test_alike_states_read_texts_alike(self):
        chance = random.Random(14)
        words = (("x",), ("e",), ("r",), ("n",), ("x", "e"), ("o",), ("p",), ("l",))
        states = [state for state in states_upto(rich_book(), (0, 2), 2)]
        classes = {}
        for state in states:
            classes.setdefault(class_of(rich_book(), state), []).append(state)
        for group in classes.values():
            for line in itertools.product((0, 1, 2, 3), words):
                text = Text(line, (chance.randrange(4), chance.choice(words)))
                found = {Reading(rich_book(), text, state).signs for state in group}
                faults = {Reading(rich_book(), text, state).fault for state in group}
                self.assertEqual([len(found), len(faults)], [1, 1])
                self.assertFalse(is_telling(rich_book(), group[0], group[-1], text))

    def test_is_telling(self):
        one, other = (((4, "o"),), ""), (((4, "p"),), "")
        self.assertIs(is_telling(rich_book(), one, other, Text((4, ("x",)), (9, ("e",)))), True)
        wrong = [Text(), Text((4, ("x",))), Text((0, ("x",))), Text((1, ("x",))), ((0, ("e",)),), "e"]
        for value in wrong + odd_values():
            self.assertIs(is_telling(rich_book(), one, other, value), False)
        self.assertIs(is_telling(rich_book(), ((), ""), (((4, "o"),), ""), Text()), True)

    def test_other_faults_tell(self):
        one, other = (((-1, "l"),), "o"), (((-1, "l"),), "q")
        self.assertIs(is_telling(rich_book(), one, other, Text()), True)
        self.assertIs(is_telling(rich_book(), (((-1, "l"),), ""), (((-1, "m"),), ""), Text()), False)


class TestStatesUpto(Refusing):
    def test_all_of_them(self):
        for book in (rich_book(), py_book(), hs_book(), ya_book(), Book()):
            for columns, most in itertools.product(((), (0,), (0, 1), (1, 2, 198)), (0, 1, 2)):
                blocks = [(column, word) for column in columns for word in book.openers]
                blocks += [(-1, word) for word in book.brackets]
                expected = []
                for many in range(most + 1):
                    states = [(pile, waiting) for pile in itertools.product(blocks, repeat=many)
                              for waiting in ("",) + tuple(book.openers) if naive.is_regular(book, pile)]
                    expected += sorted(states)
                self.assertEqual(list(states_upto(book, columns, most)), expected)

    def test_the_most_blocks(self):
        found = list(states_upto(ya_book(), (0, 3), 4))
        self.assertEqual(found[0], ((), ""))
        self.assertEqual(found[-1], (((3, "key"),) * 4, "key"))
        self.assertEqual(len(found), 2 * (1 + 2 + 3 + 4 + 5))
        self.assertEqual([len(pile) for pile, _ in found], sorted(len(pile) for pile, _ in found))

    def test_it_goes_step_by_step(self):
        openers = {word: ("level", "empty") for word in "abcd"}
        states = states_upto(Book(openers, {}, {"l": "r"}), tuple(range(199)), 4)
        self.assertEqual([next(states) for _ in range(6)],
                         [((), word) for word in ("", "a", "b", "c", "d")] + [(((-1, "l"),), "")])

    def test_errors_come_with_the_first_one(self):
        calls = [(InvalidBook, "no", (None, None, None)), (InvalidBook, "no", (((), ""), (0,), 1)),
                 (InvalidOperation, "no", (py_book(), [0], -1)), (InvalidNumber, 5, (py_book(), (0,), 5))]
        for error, kept, args in calls:
            states = states_upto(*args)
            self.assert_refused(error, kept, lambda: next(states))
        for value in [(1, 0), (0, 0), (199,), (0, 199), (-1,), (True,), (0, None), [0, 1], "01", 0, None,
                      (0, "1"), ((0,),)] + not_of(tuple):
            self.assert_refused(InvalidOperation, "no", lambda: next(states_upto(py_book(), value, 9)))
        for value in (-1, 5, True, False, None, "1", (1,), SIXTY, 10 ** 99, [], {}):
            self.assert_refused(InvalidNumber, value, lambda: next(states_upto(py_book(), (0, 198), value)))


if __name__ == "__main__":
    unittest.main()
