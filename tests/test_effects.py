"""What stretches do: [6.1] to [6.3] and the class Effect, with its errors in their order."""

import inspect
import itertools
import random
import unittest

from offside.base.books import Book
from offside.base.texts import Text
from offside.effect.pauses import Effect
from offside.errors import InvalidBook, InvalidNumber, InvalidOperation, InvalidState, InvalidText, TooMany
from offside.read.reading import Reading
from offside.read.states import are_alike, states_upto
from tests import naive
from tests.values import (Refusing, hs_book, kinds_of_books, loop_text, no_integers, not_of, odd_values, py_book,
                          random_book, random_state, random_text)


def rich_book():
    """o has the ender e, p has none; lines join."""
    openers = {"o": ("deeper", "filled"), "p": ("level", "empty")}
    return Book(openers, {"e": "o"}, {"l": "r", "m": "n"}, deep="joins", gap="joins")


def blocks_of(book, columns):
    """The ground and all blocks of a book with these columns."""
    blocks = [(0, "")] + [(-1, word) for word in book.brackets]
    return blocks + [(column, word) for column in columns for word in book.openers]


class TestExample(unittest.TestCase):
    def test_the_documents(self):
        two = Effect(hs_book(), Text((4, ("b",)), (2, ("c",))))
        found = [two.start(""), two.step((0, -1, False, ""), (6, "of")), two.step((0, -1, True, ""), (4, "of"))]
        expected = [((), ("asks", (0, -1, False, ""))), (("}",), ("asks", (0, -1, True, ""))),
                    ((";", "b", "}"), ("asks", (1, -1, True, "")))]
        self.assertEqual(found, expected)
        found = [two.at((((2, "of"), (4, "of")), "")), two.at((((2, "of"), (6, "of")), "")),
                 two.asked_at((((2, "of"), (4, "of")), "")), str(two)]
        expected = [((";", "b", "}", ";", "c"), (((2, "of"),), "")), (("}", "b", ";", "c"), (((2, "of"),), "")), 2,
                    "2 lines, 5 pauses"]
        self.assertEqual(found, expected)

    def test_names(self):
        told = {"start": "(self, waiting)", "step": "(self, pause, block)", "at": "(self, state)",
                "fault_at": "(self, state)", "asked_at": "(self, state)", "followed_by": "(self, other)",
                "moved": "(self, by)"}
        for name, parameters in told.items():
            self.assertEqual(str(inspect.signature(vars(Effect)[name])), parameters, name)
        self.assertEqual(str(inspect.signature(Effect)), "(book, text)")


class TestPauses(unittest.TestCase):
    def assert_pauses(self, book, *expected, written):
        found = Effect(book, Text.read(written)).pauses
        self.assertEqual(found, expected)
        self.assertTrue(all(type(pause[2]) is bool for pause in found))

    def test_plain_lines(self):
        opening = ((0, -2, False, "o"), (0, -2, False, "p"))
        head = opening + ((0, -1, False, ""), (0, -1, True, ""))
        self.assert_pauses(rich_book(), *head, written="  x")
        self.assert_pauses(rich_book(), *head, (1, -1, True, ""), written="  x\n x")
        self.assert_pauses(rich_book(), *head, written="  x\n  x\n   x")
        self.assert_pauses(rich_book(), written="")

    def test_lines_at_the_ground(self):
        # No known block is deeper than the line, so a second line never asks.
        self.assert_pauses(rich_book(), (0, -2, False, "o"), (0, -2, False, "p"), (0, -1, False, ""), (0, -1, True, ""),
                           written="x\nx")

    def test_enders_and_closers(self):
        self.assert_pauses(rich_book(), (0, 0, False, ""), written="e")
        self.assert_pauses(rich_book(), (0, 0, False, ""), (0, 1, False, ""), (1, 0, False, ""), written="e r\nn")
        self.assert_pauses(rich_book(), (0, -2, False, "o"), (0, -2, False, "p"), (0, -1, False, ""), (0, -1, True, ""),
                           (0, 1, False, ""), (0, 2, False, ""), written="x e r")

    def test_an_opener_that_waits_with_nothing_known(self):
        self.assert_pauses(rich_book(), (0, 0, False, ""), (1, -2, False, "p"), (1, -1, True, ""), written="e p\n x")
        self.assert_pauses(rich_book(), (0, 0, False, ""), (1, -2, False, "o"), written="e o\n x")

    def test_no_more_than_forty_blocks_are_told(self):
        text = Text(*[(0, ("r",))] * 60)
        self.assertEqual(Effect(rich_book(), text).pauses, tuple((line, 0, False, "") for line in range(41)))
        text = Text(*[(0, ("e", "e"))] * 60)
        self.assertEqual(len(Effect(rich_book(), text).pauses), 41)

    def test_all_that_steps_lead_to(self):
        chance = random.Random(3)
        for _ in range(400):
            book = random_book(chance)
            columns = chance.choice(((0, 1, 2, 3), (0, 3), (4,)))
            effect = Effect(book, random_text(chance, book, chance.randint(0, 5), columns))
            found = set()
            outcomes = [effect.start(waiting)[1] for waiting in ("",) + tuple(book.openers)]
            while outcomes:
                outcome = outcomes.pop()
                if outcome[0] == "asks" and outcome[1] not in found:
                    found.add(outcome[1])
                    outcomes += [effect.step(outcome[1], block)[1] for block in blocks_of(book, range(7))]
            self.assertEqual(effect.pauses, tuple(sorted(found)))


class TestSteps(unittest.TestCase):
    def test_beginnings(self):
        effect = Effect(rich_book(), Text.read("  x\n   x"))
        self.assertEqual([effect.start(""), effect.start("o"), effect.start("p")],
                         [((), ("asks", (0, -1, False, ""))), ((), ("asks", (0, -2, False, "o"))),
                          ((), ("asks", (0, -2, False, "p")))])
        effect = Effect(rich_book(), Text.read("e"))
        self.assertEqual(effect.start("p"), (("{", "}"), ("asks", (0, 0, False, ""))))
        self.assertEqual(effect.start("o")[1], ("broken", 0, "filled"))
        effect = Effect(rich_book(), Text())
        self.assertEqual([effect.start(""), effect.start("o")], [((), ("done", (), "")), ((), ("done", (), "o"))])

    def test_where_an_opener_is_compared(self):
        effect = Effect(rich_book(), Text.read("  x"))
        pause = (0, -2, False, "o")
        self.assertEqual(effect.step(pause, (1, "p")), (("{", "x"), ("done", ((1, "p"), (2, "o")), "")))
        self.assertEqual(effect.step(pause, (-1, "l")), (("{", "x"), ("done", ((-1, "l"), (2, "o")), "")))
        self.assertEqual(effect.step(pause, (0, "")), (("{", "x"), ("done", ((0, ""), (2, "o")), "")))
        self.assertEqual(effect.step(pause, (2, "p"))[1], ("broken", 0, "filled"))
        pause = (0, -2, False, "p")
        self.assertEqual(effect.step(pause, (2, "o")), (("{", "x"), ("done", ((2, "o"), (2, "p")), "")))
        self.assertEqual(effect.step(pause, (3, "o")), (("{", "}", "}"), ("asks", (0, -1, True, ""))))

    def test_where_a_line_is_compared(self):
        effect = Effect(rich_book().joining(deep="breaks"), Text.read("  x o"))
        for ended in (False, True):
            pause = (0, -1, ended, "")
            self.assertEqual(effect.step(pause, (2, "p")), ((";", "x", "o"), ("done", ((2, "p"),), "o")))
            self.assertEqual(effect.step(pause, (3, "p")), (("}",), ("asks", (0, -1, True, ""))))
            self.assertEqual(effect.step(pause, (-1, "m")), (("x", "o"), ("done", ((-1, "m"),), "o")))
        self.assertEqual(effect.step((0, -1, False, ""), (1, "p"))[1], ("broken", 0, "deep"))
        self.assertEqual(effect.step((0, -1, True, ""), (1, "p")), (("x", "o"), ("done", ((1, "p"),), "o")))
        self.assertEqual(effect.step((0, -1, False, ""), (0, ""))[1], ("broken", 0, "deep"))
        self.assertEqual(effect.step((0, -1, True, ""), (0, "")), (("x", "o"), ("done", ((0, ""),), "o")))

    def test_where_a_word_is_reached(self):
        effect = Effect(rich_book(), Text.read("e y r l o"))
        ender, closer = (0, 0, False, ""), (0, 2, False, "")
        self.assertEqual(effect.step(ender, (9, "o")), (("}", "e", "y"), ("asks", closer)))
        self.assertEqual(effect.step(ender, (9, "p")), (("}",), ("asks", ender)))
        self.assertEqual(effect.step(closer, (9, "p")), (("}",), ("asks", closer)))
        self.assertEqual(effect.step(closer, (-1, "l")), (("r", "l", "o"), ("done", ((-1, "l"),), "o")))
        for pause, reason in ((ender, "ender"), (closer, "closer")):
            for block in ((0, ""), (-1, "m")):
                self.assertEqual(effect.step(pause, block)[1], ("broken", 0, reason))
        self.assertEqual(effect.step(ender, (-1, "l"))[1], ("broken", 0, "ender"))

    def test_a_block_stays_known_until_it_is_ended(self):
        effect = Effect(rich_book(), Text.read("  x\n    x\n  y l\nz\nr\n w"))
        self.assertEqual(effect.step((0, -1, False, ""), (2, "o")),
                         ((";", "x", "x", ";", "y", "l", "z", "r", "}"), ("asks", (5, -1, True, ""))))
        self.assertEqual(effect.step((5, -1, True, ""), (1, "p")), ((";", "w"), ("done", ((1, "p"),), "")))
        self.assertEqual(effect.step((0, -1, False, ""), (1, "o")),
                         (("x", "x", "y", "l", "z", "r", ";", "w"), ("done", ((1, "o"),), "")))

    def test_each_pause_with_each_block(self):
        chance = random.Random(15)
        for _ in range(60):
            book = random_book(chance)
            effect = Effect(book, random_text(chance, book, chance.randint(1, 4), (0, 1, 2)))
            # For each pause the blocks that lead to it, the top first, and the signs told by then.
            ways = {}
            ahead = [(waiting, (), effect.start(waiting)) for waiting in ("",) + tuple(book.openers)]
            while ahead:
                waiting, told, (signs, outcome) = ahead.pop(0)
                if outcome[0] == "asks" and outcome[1] not in ways:
                    ways[outcome[1]] = True
                    for block in blocks_of(book, range(4)):
                        more, behind = effect.step(outcome[1], block)
                        self.check_step(effect, waiting, told + (block,), signs + more, behind)
                        ahead.append((waiting, told + (block,), (signs + more, behind)))
            self.assertEqual(tuple(sorted(ways)), effect.pauses)

    def check_step(self, effect, waiting, told, signs, outcome):
        """What a step gives, beside the reading from the pile of the blocks that were told."""
        pile = tuple(reversed(told))
        parts, fault, states, _ = naive.read(effect.book, effect.text.lines, (pile[pile[0] == (0, ""):], waiting), True)
        if outcome[0] == "broken":
            self.assertEqual(outcome[1:], fault)
        elif outcome[0] == "done":
            self.assertEqual([signs, outcome[2]], [sum(parts, ()), states[-1][1]])
            self.assertEqual(outcome[1][pile[0] == (0, ""):], states[-1][0])
        else:
            many = naive.asked(effect.book, effect.text.lines, (pile, waiting))
            self.assertEqual([pile[0] == (0, ""), many], [False, len(told) + 1])

    def test_steps_make_the_reading(self):
        chance = random.Random(5)
        for _ in range(600):
            book = random_book(chance)
            text = random_text(chance, book, chance.randint(0, 5), (0, 1, 2))
            effect = Effect(book, text)
            state = random_state(chance, book, 5, (0, 1, 2, 3, 198))
            signs, outcome = effect.start(state[1])
            pile = [(0, "")] + list(state[0])
            while outcome[0] == "asks":
                self.assertIn(outcome[1], effect.pauses)
                more, outcome = effect.step(outcome[1], pile.pop())
                signs += more
            parts, fault, states, _ = naive.read(book, text.lines, state, True)
            if fault:
                self.assertEqual(outcome, ("broken",) + fault)
            else:
                self.assertEqual([signs, outcome[0], tuple(pile) + outcome[1], outcome[2]],
                                 [sum(parts, ()), "done", ((0, ""),) + states[-1][0], states[-1][1]])


class TestStates(unittest.TestCase):
    def assert_at(self, effect, state):
        parts, fault, states, _ = naive.read(effect.book, effect.text.lines, state, True)
        told = (effect.book.text, str(effect.text), state)
        self.assertEqual(effect.fault_at(state), fault, told)
        self.assertEqual(effect.at(state), None if fault else (sum(parts, ()), states[-1]), told)
        self.assertEqual(effect.asked_at(state), naive.asked(effect.book, effect.text.lines, state), told)

    def test_small_stretches_from_all_small_states(self):
        texts = ["", "x", " x", "  e", "r", " x p", " x r e", "  x\n x", " x e\n x", "e o\n x", "l\nx\nr",
                 " x o\n  e\nx"]
        for book in kinds_of_books()[::2]:
            blocks = [(0, "o"), (1, "o"), (2, "p"), (-1, "l")]
            for written in texts:
                effect = Effect(book, Text.read(written))
                for many in range(3):
                    for pile in itertools.product(blocks, repeat=many):
                        for waiting in ("", "o"):
                            self.assert_at(effect, (pile, waiting))

    def test_any_stretches(self):
        chance = random.Random(6)
        for _ in range(1500):
            book = random_book(chance)
            columns = chance.choice(((0, 1, 2, 3), (0, 2, 199), (1,)))
            effect = Effect(book, random_text(chance, book, chance.randint(0, 6), columns))
            for _ in range(4):
                self.assert_at(effect, random_state(chance, book, 5, (0, 1, 2, 3, 198)))

    def test_how_many_blocks_are_asked_for(self):
        state = (((1, "p"), (3, "o"), (5, "p")), "")
        for written, many in (("", 0), ("     x", 1), ("    x", 2), ("   x", 2), ("  x", 3), (" x", 3), ("x", 4),
                              ("e", 2), ("x e", 4), ("r", 4), ("      x\nx", 4), ("     x e e", 4), ("e y\n x", 3)):
            self.assertEqual(Effect(rich_book(), Text.read(written)).asked_at(state), many, written)
        self.assertEqual(Effect(rich_book(), Text.read("x")).asked_at(((), "")), 1)
        self.assertEqual(Effect(rich_book(), Text.read("e")).asked_at(((), "o")), 0)

    def test_forty_blocks(self):
        effect = Effect(rich_book(), Text.read("x"))
        state = (tuple((at, "o") for at in range(1, 41)), "")
        self.assertEqual([effect.at(state), effect.asked_at(state)], [(("}",) * 40 + (";", "x"), ((), "")), 41])

    def test_alike_states_behind_and_ahead(self):
        # What is behind alike states is alike, whatever the stretch is.
        chance = random.Random(7)
        states = list(states_upto(hs_book(), (0, 2), 2))
        for _ in range(40):
            effect = Effect(hs_book(), random_text(chance, hs_book(), 3, (0, 1, 2, 3)))
            for one, other in itertools.combinations(states, 2):
                if are_alike(hs_book(), one, other):
                    found = [effect.at(one), effect.at(other)]
                    if found[0] is None:
                        self.assertEqual(effect.fault_at(one), effect.fault_at(other))
                    else:
                        self.assertEqual(found[0][0], found[1][0])
                        self.assertTrue(are_alike(hs_book(), found[0][1], found[1][1]))


class TestTogether(Refusing):
    def test_followed_by(self):
        chance = random.Random(8)
        for _ in range(300):
            book = random_book(chance)
            one, other = (Effect(book, random_text(chance, book, chance.randint(0, 4), (0, 1, 2))) for _ in range(2))
            both = one.followed_by(other)
            self.assertEqual([both, both.pauses], [Effect(book, one.text + other.text),
                                                   Effect(book, one.text + other.text).pauses])
            state = random_state(chance, book, 4, (0, 1, 2))
            first = one.at(state)
            second = None if first is None else other.at(first[1])
            expected = None if second is None else (first[0] + second[0], second[1])
            self.assertEqual(both.at(state), expected)

    def test_a_text_in_parts_after_a_change(self):
        # [0.24]: after a change of one part, the effects of the others are put together with its own.
        chance = random.Random(16)
        read = 0
        for _ in range(400):
            book = random_book(chance)
            texts = [random_text(chance, book, chance.randint(0, 3), (0, 1, 2)) for _ in range(4)]
            effects = [Effect(book, part) for part in texts]
            at = chance.randrange(4)
            texts[at] = random_text(chance, book, chance.randint(0, 3), (0, 1, 2))
            effects[at] = Effect(book, texts[at])
            state, signs, line, fault = ((), ""), (), 0, None
            for effect in effects:
                if fault is None and effect.at(state) is None:
                    fault = effect.fault_at(state)
                    fault = (fault[0] + line, fault[1])
                elif fault is None:
                    more, state = effect.at(state)
                    signs += more
                    line += len(effect)
            whole = Reading(book, texts[0] + texts[1] + texts[2] + texts[3], is_open=True)
            self.assertEqual(fault, whole.fault)
            if fault is None:
                read += 1
                self.assertEqual([signs, state], [whole.signs, whole.last_state])
        self.assertGreater(read, 20)

    def test_too_many_lines(self):
        one = Effect(py_book(), Text(*[(0, ("x",))] * 31))
        self.assert_refused(TooMany, 60, one.followed_by, one)
        self.assertEqual(len(one.followed_by(Effect(py_book(), Text(*[(0, ("x",))] * 29)))), 60)

    def test_only_effects_under_equal_books(self):
        one = Effect(py_book(), loop_text())
        for value in odd_values() + [Effect(hs_book(), loop_text()), Effect(hs_book(), Text(*[(0, ("x",))] * 60))]:
            self.assert_refused(InvalidOperation, "no", one.followed_by, value)
        self.assertEqual(one.followed_by(Effect(py_book(), Text())), one)

    def test_moved(self):
        one = Effect(hs_book(), Text.read(" b\n  c"))
        self.assertEqual([one.moved(3), one.moved(0)], [Effect(hs_book(), Text.read("    b\n     c")), one])
        self.assertEqual(one.moved(197).at((((198, "of"),), "")), ((";", "b", "c"), (((198, "of"),), "")))
        for by in [198, -2, True, None, "1", 10 ** 60] + no_integers():
            self.assert_refused(InvalidNumber, by, one.moved, by)
        self.assertEqual(Effect(hs_book(), Text()).moved(10 ** 59).text, Text())

    def test_equality_and_size(self):
        made = [Effect(py_book(), loop_text()), Effect(hs_book(), loop_text()), Effect(py_book(), Text())]
        for one, other in itertools.product(enumerate(made), repeat=2):
            self.assertEqual([one[1] == other[1], one[1] != other[1]], [one[0] == other[0], one[0] != other[0]])
        self.assertEqual(made[0], Effect(py_book(), loop_text()))
        for value in odd_values() + [loop_text()]:
            self.assertFalse(made[0] == value)
        self.assertEqual([len(effect) for effect in made], [4, 4, 0])
        self.assertEqual([made[0].book, made[0].text, str(made[2])], [py_book(), loop_text(), "0 lines, 0 pauses"])
        with self.assertRaises(TypeError):
            list(made[0])


class TestErrors(Refusing):
    def test_making(self):
        for value in not_of(Book):
            self.assert_refused(InvalidBook, "no", Effect, value, None)
        for value in not_of(Text):
            self.assert_refused(InvalidText, "no", Effect, py_book(), value)

    def test_start(self):
        effect = Effect(rich_book(), Text.read("x"))
        for value in ["e", "l", "r", "x", "O"] + [value for value in odd_values() if value != ""]:
            self.assert_refused(InvalidState, "no", effect.start, value)

    def test_step(self):
        effect = Effect(rich_book(), Text.read(" x r"))
        good = (0, -1, True, "")
        wrong = [(0, -1, 1, ""), (False, -1, True, ""), (0, True, False, ""), (0, -1, True), [0, -1, True, ""],
                 (0, 1, True, ""), (1, -1, True, ""), (0, -2, False, ""), (0, -2, True, "o"), (0, 0, False, ""),
                 (0, -1, True, "o"), (0, -2, False, "e"), (0, -1, None, ""), (0, -1, True, None)]
        for pause in wrong + odd_values():
            self.assert_refused(InvalidState, "no", effect.step, pause, (1, "o"))
            self.assert_refused(InvalidState, "no", effect.step, pause, None)
        wrong = [(199, "o"), (-1, "o"), (0, "l"), (1, ""), (-1, ""), (False, ""), (True, "o"), (0, "x"), (0, "e"),
                 (-1, "r"), (1, "o", 1), [1, "o"], ("o", 1), (0, None), (None, ""), (0, [])]
        for block in wrong + odd_values():
            self.assert_refused(InvalidState, "no", effect.step, good, block)
        self.assertEqual(effect.step(good, (198, "o"))[1], ("asks", good))

    def test_states(self):
        effect = Effect(rich_book(), Text.read(" x"))
        wrong = [((), "x"), (((199, "o"),), ""), (((1, "q"),), ""), (((-1, "l"),) * 41, ""), (((True, "o"),), "")]
        for call in (effect.at, effect.fault_at, effect.asked_at):
            for value in wrong + odd_values():
                self.assert_refused(InvalidState, "no", call, value)
        self.assertEqual(effect.fault_at((((5, "o"), (3, "o")), "")), None)

    def test_long_stretches_take_no_long(self):
        for columns in (range(198, 78, -2), range(60), [at * 37 % 200 for at in range(60)]):
            for words in (("x",), ("x", "e", "r", "l", "e", "p"), ("x", "o"), ("e", "r", "e", "n", "e", "p")):
                text = Text(*[(column, words) for column in columns])
                for book in (rich_book(), rich_book().joining(gap="breaks")):
                    effect = Effect(book, text)
                    state = (tuple((at, "o") for at in range(150, 190)), "")
                    self.assertEqual(effect.asked_at(state), naive.asked(book, text.lines, state))


if __name__ == "__main__":
    unittest.main()
