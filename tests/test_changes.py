"""Least changes: [10.1] to [10.3] and what stands under stage 10."""

import inspect
import itertools
import random
import unittest

from offside.base.texts import Text
from offside.demand import changes
from offside.demand.changes import is_change, is_flow, least_change, line_moved, price, repaired, worth
from offside.demand.columns import System, is_ring
from offside.demand.rows import Wanted
from offside.errors import InvalidBook, InvalidDemand, InvalidNumber, InvalidOperation, InvalidRow, InvalidText
from offside.read.reading import Reading
from tests.values import (SIXTY, SIXTY_ONE, Refusing, case_text, hs_book, loop_text, no_integers, not_of, odd_values,
                          py_book, random_book, random_text)

CHAIN = ((1, 0, 1), (2, 1, 0), (1, 2, 0))
RING = ((0, 1, 1), (1, 0, 0))
GREATEST = 3
WEIGHTS = (0, 1, 2, 3, 1000)


def small_system(chance, most=3):
    """A system with columns up to 3, or without any."""
    many = chance.randint(0, most)
    places = range(-1, many)
    demands = [(chance.choice(places), chance.choice(places), chance.randint(-2, 2)) for _ in range(chance.randint(0, 5))]
    return System(many, tuple(demands) + tuple((-1, line, -GREATEST) for line in range(many)))


def all_columns(system):
    return [columns for columns in itertools.product(range(GREATEST + 1), repeat=system.many) if system.is_met(columns)]


def plain_price(columns, others, weights):
    return sum(abs(one - other) * (1 if weights is None else weights[at])
               for at, (one, other) in enumerate(zip(columns, others)))


def plain_worth(system, columns, flow):
    places = columns + (0,)
    return sum(amount * (least - places[upper] + places[lower])
               for amount, (upper, lower, least) in zip(flow, system.all_demands))


def is_plain_flow(system, weights, flow):
    for line in range(system.many):
        into = sum(amount for amount, demand in zip(flow, system.all_demands) if demand[0] == line)
        out = sum(amount for amount, demand in zip(flow, system.all_demands) if demand[1] == line)
        if abs(into - out) > (1 if weights is None else weights[line]):
            return False
    return True


def some_weights(chance, many):
    return chance.choice((None, tuple(chance.choice(WEIGHTS) for _ in range(many))))


class TestExamples(unittest.TestCase):
    def test_those_of_the_document(self):
        system = System(3, CHAIN)
        paper = least_change(system, (0, 4, 2))
        self.assertEqual([price((0, 4, 2), (0, 2, 2)), paper[0], price((0, 4, 2), paper[1]),
                          worth(system, (0, 4, 2), paper[2])], [2, "change", 2, 2])
        self.assertEqual([line_moved(system, (0, 4, 2), 1, 0)[0],
                          price((0, 9, 2), line_moved(system, (0, 4, 2), 1, 9)[1], (1, 0, 3)),
                          is_flow(system, (0, 0, 0), (0,) * 9)], ["ring", 21, True])
        self.assertEqual(changes.MAX_WEIGHT, 1000)

    def test_others_like_them(self):
        system = System(2, ((1, 0, 4),))
        self.assertEqual(least_change(system, (6, 6), (1, 5))[1], (2, 6))
        self.assertEqual(least_change(system, (6, 6), (5, 1))[1], (6, 10))
        self.assertEqual(price((6, 6), least_change(system, (6, 6))[1]), 4)
        self.assertEqual(least_change(system, (0, 0), (1, 1000))[1], (0, 4))
        self.assertEqual(least_change(System(2, RING), (0, 0))[0], "ring")
        self.assertEqual(least_change(System(0), ()), ("change", (), ()))
        self.assertEqual(least_change(System(0, ((-1, -1, 1),)), ()), ("ring", ((-1, -1, 1),)))

    def test_prices(self):
        self.assertEqual([price((), ()), price((5,), (5,)), price((0, 199), (199, 0)), price((3, 4), (0, 0), (0, 1000)),
                          price((3, 4), (0, 9), (2, 1)), price((0,) * 60, (1,) * 60)], [0, 0, 398, 4000, 11, 60])
        self.assertEqual(price((3, 4), (0, 9), None), 8)

    def test_columns_that_meet_the_demands_stay(self):
        system = System(3, CHAIN)
        for columns in ((0, 1, 1), (7, 9, 9), (198, 199, 199)):
            for weights in (None, (1, 1, 1), (1000, 1, 5)):
                kind, others, flow = least_change(system, columns, weights)
                self.assertEqual([kind, others, worth(system, columns, flow)], ["change", columns, 0])
            self.assertTrue(is_change(system, columns, None, ("change", columns, (0,) * 9)))

    def test_a_line_without_a_weight_costs_nothing(self):
        system = System(2, ((1, 0, 5), (-1, 1, -5)))
        kind, others, flow = least_change(system, (9, 9), (0, 0))
        self.assertEqual([kind, others, worth(system, (9, 9), flow)], ["change", (0, 5), 0])

    def test_names(self):
        told = {price: "(columns, others, weights=None)", is_flow: "(system, weights, value)",
                worth: "(system, columns, flow)", least_change: "(system, columns, weights=None)",
                is_change: "(system, columns, weights, value)",
                line_moved: "(system, columns, line, column, weights=None)",
                repaired: "(book, text, row, weights=None)"}
        for call, parameters in told.items():
            self.assertEqual(str(inspect.signature(call)), parameters, call)


class TestByForce(unittest.TestCase):
    def test_least_changes(self):
        chance = random.Random(101)
        kinds = {"change": 0, "ring": 0}
        for _ in range(1500):
            system = small_system(chance)
            columns = tuple(chance.randint(0, 5) for _ in range(system.many))
            weights = some_weights(chance, system.many)
            paper = least_change(system, columns, weights)
            kinds[paper[0]] += 1
            self.assertIs(is_change(system, columns, weights, paper), True)
            self.check_paper(system, columns, weights, paper)
        self.assertGreater(min(kinds.values()), 200)

    def check_paper(self, system, columns, weights, paper):
        """A paper beside all columns of a system."""
        every = all_columns(system)
        if paper[0] == "ring":
            self.assertEqual([every, is_ring(system, paper[1])], [[], True])
            return
        best = min(plain_price(columns, others, weights) for others in every)
        self.assertIn(paper[1], every)
        self.assertEqual(plain_price(columns, paper[1], weights), best)
        self.assertTrue(is_plain_flow(system, weights, paper[2]))
        self.assertEqual(plain_worth(system, columns, paper[2]), best)
        self.assertTrue(all(amount < 10 ** 50 for amount in paper[2]))

    def test_no_flow_is_worth_more(self):
        chance = random.Random(102)
        flows = 0
        for _ in range(300):
            system = small_system(chance, 2)
            weights = some_weights(chance, system.many)
            columns = tuple(chance.randint(0, 5) for _ in range(system.many))
            every = all_columns(system)
            for _ in range(30):
                flow = tuple(chance.choice((0, 0, 0, 1, 2, 1000)) for _ in range(len(system)))
                self.assertIs(is_flow(system, weights, flow), is_plain_flow(system, weights, flow))
                self.assertEqual(worth(system, columns, flow), plain_worth(system, columns, flow))
                if is_flow(system, weights, flow) and every:
                    flows += 1
                    least = min(plain_price(columns, others, weights) for others in every)
                    self.assertLessEqual(worth(system, columns, flow), least)
        self.assertGreater(flows, 1000)

    def test_one_line_moved_to_each_column(self):
        chance = random.Random(103)
        for _ in range(60):
            system = small_system(chance)
            columns = tuple(chance.randint(0, 5) for _ in range(system.many))
            weights = some_weights(chance, system.many)
            for line, column in itertools.product(range(system.many), range(GREATEST + 3)):
                moved = columns[:line] + (column,) + columns[line + 1:]
                told = (1,) * system.many if weights is None else weights
                freed = told[:line] + (0,) + told[line + 1:]
                paper = line_moved(system, columns, line, column, weights)
                self.assertIs(is_change(system.fixed(line, column), moved, freed, paper), True)
                self.check_paper(system.fixed(line, column), moved, freed, paper)
                if paper[0] == "change":
                    self.assertEqual(paper[1][line], column)

    def test_large_systems(self):
        chance = random.Random(104)
        for turn in range(6):
            columns = tuple(chance.randint(0, 199) for _ in range(60))
            demands = []
            while len(demands) < 598:
                upper, lower = chance.randint(-1, 59), chance.randint(-1, 59)
                least = (columns + (0,))[upper] - (columns + (0,))[lower] - chance.choice((0, 1, 5, 30))
                demands.append((upper, lower, max(least, -199)))
            system = System(60, tuple(demands))
            given = tuple(chance.randint(0, 199) for _ in range(60))
            weights = (None, (1000,) * 60, tuple(chance.randint(0, 1000) for _ in range(60)))[turn % 3]
            paper = least_change(system, given, weights)
            self.assertEqual([paper[0], is_change(system, given, weights, paper)], ["change", True])
            self.assertEqual(least_change(system, columns, weights)[1], columns)
            self.assertTrue(is_change(system.fixed(0, columns[0]), columns, (0,) + (1,) * 59,
                                      line_moved(system, columns, 0, columns[0])))

    def test_long_chains(self):
        for last in (3, 4):
            system = System(60, tuple((at + 1, at, last) for at in range(59)))
            for columns in ((0,) * 60, (199,) * 60, tuple(range(199, 139, -1))):
                paper = least_change(system, columns, (1000,) * 60)
                self.assertEqual([paper[0], is_change(system, columns, (1000,) * 60, paper)],
                                 ["change" if last == 3 else "ring", True])


class TestJudges(Refusing):
    def test_flows(self):
        system = System(1, ((0, -1, 3),))
        self.assertEqual(system.all_demands, ((-1, 0, -199), (0, -1, 0), (0, -1, 3)))
        for flow in ((0, 0, 0), (0, 0, 1), (1, 1, 1), (1, 1, 0), (7, 5, 1), (SIXTY, SIXTY, 0), (1, 0, 0)):
            self.assertIs(is_flow(system, None, flow), True, flow)
        wrong = [(0, 1, 1), (2, 0, 0), (0, 0, 2), (0, 0), (0, 0, 0, 0), (0, 0, -1), (0, 0, True), (0, 0, None),
                 (False, 0, 0), [0, 0, 0], (0, 0, "1"), (SIXTY_ONE, SIXTY_ONE, 0), (0, 0, (1,)), ((0, 0, 0),)]
        for value in wrong + odd_values():
            self.assertIs(is_flow(system, None, value), False, value)
        self.assertEqual([is_flow(system, (0,), (0, 0, 1)), is_flow(system, (1000,), (0, 0, 1000)),
                          is_flow(system, (1000,), (0, 0, 1001)), is_flow(System(0), None, ())],
                         [False, True, False, True])
        self.assertEqual([worth(system, (1,), (0, 0, 1)), worth(system, (1,), (5, 0, 9)), worth(system, (4,), (0, 2, 0)),
                          worth(system, (0,), (SIXTY, 0, SIXTY))], [2, -972, -8, -196 * SIXTY])

    def test_papers_wrong_in_one_place(self):
        chance = random.Random(105)
        judged = {True: 0, False: 0}
        for _ in range(200):
            system = small_system(chance)
            columns = tuple(chance.randint(0, 5) for _ in range(system.many))
            weights = some_weights(chance, system.many)
            paper = least_change(system, columns, weights)
            if paper[0] != "change":
                continue
            best = plain_price(columns, paper[1], weights)
            for place, by in itertools.product((1, 2), (-1, 1)):
                for at in range(len(paper[place])):
                    row = list(paper[place])
                    row[at] += by
                    value = paper[:place] + (tuple(row),) + paper[place + 1:]
                    good = (min(row) >= 0 and value[1] in all_columns(system)
                            and plain_price(columns, value[1], weights) == best
                            and is_plain_flow(system, weights, value[2])
                            and plain_worth(system, columns, value[2]) == best)
                    judged[good] += 1
                    self.assertIs(is_change(system, columns, weights, value), good)
        self.assertGreater(min(judged.values()), 20)

    def test_values_that_are_no_papers(self):
        system, ring = System(3, CHAIN), System(2, RING)
        paper = least_change(system, (0, 4, 2))
        wrong = [paper[1:], paper[:2], paper + (1,), list(paper), ("ring",) + paper[1:], ("Change",) + paper[1:],
                 ("change", list(paper[1]), paper[2]), ("change", paper[1], list(paper[2])), ("change", paper[1]),
                 ("change", paper[1] + (0,), paper[2]), ("change", paper[1], paper[2] + (0,)),
                 ("change", paper[1][:2], paper[2]), ("change", paper[1], paper[2][:-1]), ("ring", CHAIN),
                 ("change", (0, True, 2), paper[2]), (("change",), paper[1], paper[2])]
        for value in wrong + odd_values():
            self.assertIs(is_change(system, (0, 4, 2), None, value), False, value)
            self.assertIs(is_change(ring, (0, 4), None, value), False, value)
        for value in (RING, (RING[1], RING[0]), RING * 5):
            self.assertIs(is_change(ring, (0, 4), None, ("ring", value)), True)
        for value in [("change", RING), ("ring", RING[:1]), ("ring", RING, ()), ("ring", list(RING)), ("ring", ()),
                      ("ring",)] + [("ring", value) for value in odd_values()]:
            self.assertIs(is_change(ring, (0, 4), None, value), False, value)

    def test_numbers_of_fifty_digits(self):
        system = System(2, ((0, 1, 0), (1, 0, 0)))
        self.assertEqual(system.all_demands[2:4], ((0, -1, 0), (0, 1, 0)))
        kind, others, flow = least_change(system, (4, 4))
        self.assertEqual([kind, others, flow], ["change", (4, 4), (0,) * 6])
        for number, good in ((10 ** 50 - 1, True), (10 ** 50, False), (SIXTY, False), (SIXTY_ONE, False)):
            turning = (0, 0, 0, number, 0, number)
            self.assertIs(is_flow(system, None, turning), number <= SIXTY)
            self.assertIs(is_change(system, (4, 4), None, ("change", (4, 4), turning)), good)

    def test_every_least_change_is_taken(self):
        system = System(2, ((1, 0, 4),))
        kind, others, flow = least_change(system, (6, 6))
        found = [columns for columns in itertools.product(range(14), repeat=2)
                 if is_change(system, (6, 6), None, (kind, columns, flow))]
        self.assertEqual(found, [(2, 6), (3, 7), (4, 8), (5, 9), (6, 10)])


class TestRepairs(unittest.TestCase):
    def test_rows_that_columns_give(self):
        chance = random.Random(106)
        made = 0
        for _ in range(900):
            book = random_book(chance)
            told = random_text(chance, book, chance.randint(0, 3), (0, 1, 2, 3))
            row = Reading(book, told)
            if row.fault is not None:
                continue
            text = told.at(tuple(chance.randint(0, 4) for _ in range(len(told))))
            weights = some_weights(chance, len(told))
            found = repaired(book, text, row.parts, weights)
            self.assertEqual([Reading(book, found).parts, found.words], [row.parts, told.words])
            best = min(plain_price(text.columns, columns, weights)
                       for columns in itertools.product(range(8), repeat=len(told))
                       if Reading(book, told.at(columns)).parts == row.parts)
            self.assertEqual(plain_price(text.columns, found.columns, weights), best)
            made += found != text
        self.assertGreater(made, 30)

    def test_texts_of_sixty_lines(self):
        chance = random.Random(107)
        for book in (py_book(), hs_book()):
            lines = [(0, ("if",))] + [(min(at, 190), ("a", "if")) for at in range(1, 59)] + [(60, ("b",))]
            told = Text(*lines)
            row = Reading(book, told).row()
            text = told.at(tuple(chance.randint(0, 199) for _ in range(60)))
            weights = tuple(chance.randint(0, 1000) for _ in range(60))
            found = repaired(book, text, row, weights)
            self.assertEqual(Reading(book, found).parts, row)
            self.assertEqual(repaired(book, told, row), told)

    def test_rows_that_no_columns_give(self):
        book, text = py_book(), loop_text()
        row = Reading(book, text).row()
        self.assertIsNone(repaired(book, text, row[:2] + (("x",),) + row[3:]))
        # Each line alone is some case, but the last one cannot be level with both.
        words = (("a", "if"), ("b",), ("c",), ("d",))
        wanted = ((";", "a", "if"), ("{", "b"), ("}", ";", "c"), (";", "d"), ())
        self.assertEqual(repaired(book, Text.made((0, 0, 9, 9), words), wanted).columns[2:], (0, 0))
        level = ((";", "x", "of"), ("{", "y"), ("}", "z"), ())
        self.assertIsNotNone(Wanted(hs_book(), (("x", "of"), ("y",), ("z",)), level))
        deep = ((";", "x", "of"), ("{", "}", "y"), ())
        self.assertIsNone(repaired(hs_book(), Text((0, ("x", "of")), (0, ("y",))), deep))

    def test_a_repair_of_what_is_broken(self):
        row = Reading(hs_book(), case_text()).row()
        self.assertEqual(Reading(py_book(), case_text()).fault, (1, "deep"))
        self.assertIsNone(repaired(py_book(), case_text(), row))
        text = Text((0, ("def",)), (3, ("a", "if")), (3, ("b",)), (5, ("c",)))
        found = repaired(py_book(), text, Reading(py_book(), loop_text()).row())
        self.assertEqual(price(text.columns, found.columns), 3)


class TestErrors(Refusing):
    def test_systems(self):
        for value in not_of(System) + [CHAIN]:
            self.assert_refused(InvalidOperation, "no", is_flow, value, 1, 1)
            self.assert_refused(InvalidOperation, "no", worth, value, 1, 1)
            self.assert_refused(InvalidOperation, "no", least_change, value, 1, 1)
            self.assert_refused(InvalidOperation, "no", is_change, value, 1, 1, 1)
            self.assert_refused(InvalidOperation, "no", line_moved, value, 1, -1, -1, 1)

    def test_columns(self):
        wrong = [(), (0, 1), (0, 1, 2, 3), [0, 1, 2], (0, 1, 200), (0, 1, -1), (0, 1, True), (0, None, 1), (0, "1", 1)]
        for system in (System(3, CHAIN), System(3, RING)):
            for value in wrong + [value for value in odd_values() if not isinstance(value, tuple)]:
                self.assert_refused(InvalidText, "no", worth, system, value, 1)
                self.assert_refused(InvalidText, "no", least_change, system, value, 1)
                self.assert_refused(InvalidText, "no", is_change, system, value, 1, 1)
                self.assert_refused(InvalidText, "no", line_moved, system, value, -1, -1, 1)
                self.assert_refused(InvalidText, "no", price, (0, 1, 2), value, 1)
        for value in [(0,) * 61, (0, 200), (True,), (None,), [0]] + [value for value in odd_values()
                                                                     if value not in ((), (0,), (1,))]:
            self.assert_refused(InvalidText, "no", price, value, value, 1)
            self.assert_refused(InvalidText, "no", price, value, (0,), None)
        self.assertEqual(price((0,) * 60, (9,) * 60), 540)

    def test_weights(self):
        wrong = [(), (1, 1), (1, 1, 1, 1), [1, 1, 1], (1, 1, 1001), (1, 1, -1), (1, 1, True), (1, None, 1), (1, "1", 1),
                 (1, 1, SIXTY_ONE)]
        values = wrong + [value for value in odd_values() if value is not None and not isinstance(value, tuple)]
        text = Text((0, ("a",)), (0, ("b",)), (0, ("c",)))
        row = Reading(py_book(), text).row()
        for system in (System(3, CHAIN), System(3, RING)):
            for value in values:
                self.assert_refused(InvalidOperation, "no", price, (0, 1, 2), (0, 1, 2), value)
                self.assert_refused(InvalidOperation, "no", is_flow, system, value, None)
                self.assert_refused(InvalidOperation, "no", least_change, system, (0, 1, 2), value)
                self.assert_refused(InvalidOperation, "no", is_change, system, (0, 1, 2), value, None)
                self.assert_refused(InvalidOperation, "no", line_moved, system, (0, 1, 2), 0, 0, value)
                self.assert_refused(InvalidOperation, "no", repaired, py_book(), text, row, value)
        # The weights are looked at before the demands.
        full = System(3, ((1, 0, 1),) * 600)
        self.assert_refused(InvalidOperation, "no", line_moved, full, (0, 1, 2), 0, 0, (1,))
        self.assert_refused(InvalidDemand, "no", line_moved, full, (0, 1, 2), 0, 0)
        self.assert_refused(InvalidOperation, "no", repaired, py_book(), text, row[:3] + (("{",),), (1,))

    def test_flows(self):
        system = System(1, ((0, -1, 3),))
        for value in [(0, 0), (0, 0, 0, 0), (0, 0, -1), (0, 0, True), [0, 0, 0], (0, 0, SIXTY_ONE)] + odd_values():
            self.assert_refused(InvalidOperation, "no", worth, system, (0,), value)

    def test_lines_moved(self):
        for system in (System(3, CHAIN), System(3, ((1, 0, 1),) * 600)):
            for value in [3, -1, SIXTY] + no_integers():
                self.assert_refused(InvalidNumber, value, line_moved, system, (0, 1, 2), value, -1, 1)
            for value in [200, -1, SIXTY] + no_integers():
                self.assert_refused(InvalidNumber, value, line_moved, system, (0, 1, 2), 2, value, 1)

    def test_repairs(self):
        text = loop_text()
        row = Reading(py_book(), text).row()
        for value in not_of(type(py_book())):
            self.assert_refused(InvalidBook, "no", repaired, value, None, None, 1)
        for value in not_of(Text):
            self.assert_refused(InvalidText, "no", repaired, py_book(), value, None, 1)
        for value in [row[:-1], row + ((),), list(row), row[:-1] + (("A",),), row[:-1] + (["}"],)] + odd_values():
            self.assert_refused(InvalidRow, "no", repaired, py_book(), text, value, 1)

    def test_arguments_stay(self):
        system, columns, weights = System(3, CHAIN), (0, 4, 2), (1, 2, 3)
        one, other = least_change(system, columns, weights), least_change(system, columns, weights)
        self.assertEqual([one, system, columns, weights], [other, System(3, CHAIN), (0, 4, 2), (1, 2, 3)])


if __name__ == "__main__":
    unittest.main()
