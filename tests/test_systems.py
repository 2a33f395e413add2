"""Columns that meet demands: [9.1] to [9.3] and what stands under stage 9."""

import inspect
import itertools
import random
import unittest

from offside.demand.columns import System, is_chain, is_ring, span
from offside.demand.rows import Wanted
from offside.errors import InvalidDemand, InvalidNumber, InvalidOperation, InvalidText, NoColumns
from offside.read.reading import Reading
from tests.values import (SIXTY, Refusing, loop_text, no_integers, odd_values, py_book, random_book, random_text)

CHAIN = ((1, 0, 1), (2, 1, 0), (1, 2, 0))
RING = ((0, 1, 1), (1, 0, 0))
GREATEST = 3


def random_demands(chance, many, most=5):
    places = range(-1, many)
    return tuple((chance.choice(places), chance.choice(places), chance.randint(-3, 3))
                 for _ in range(chance.randint(0, most)))


def bounded(many, demands):
    """A system whose columns are small enough to try all of them."""
    return System(many, demands + tuple((-1, line, -GREATEST) for line in range(many)))


def columns_by_force(many, demands):
    return [columns for columns in itertools.product(range(GREATEST + 1), repeat=many)
            if all((columns + (0,))[upper] >= (columns + (0,))[lower] + least for upper, lower, least in demands)]


def length(chain):
    return sum(demand[2] for demand in chain)


class TestExamples(unittest.TestCase):
    def test_a_system(self):
        system = System(3, CHAIN)
        self.assertEqual([system.many, system.demands, len(system), str(system)],
                         [3, CHAIN, 9, "3 lines, 9 demands, possible"])
        self.assertEqual(system.all_demands, ((-1, 0, -199), (-1, 1, -199), (-1, 2, -199), (0, -1, 0), (1, -1, 0),
                                              (1, 0, 1), (1, 2, 0), (2, -1, 0), (2, 1, 0)))
        self.assertIs(system.is_possible, True)
        self.assertEqual([system.narrowest, system.widest, system.ring()], [(0, 1, 1), (198, 199, 199), None])
        self.assertEqual([system.forced(1, 0), system.forced(0, 1), system.forced(2, 1), system.forced(-1, 2)],
                         [1, -199, 0, -199])
        self.assertEqual([system.chain(2, 0), system.chain(1, 1)], [((1, 0, 1), (2, 1, 0)), ()])
        self.assertEqual([system.range_of(0), system.range_of(2)], [(0, 198), (1, 199)])
        self.assertEqual([system.ties(), system.are_tied(1, 2), system.are_tied(0, 1)],
                         [((-1,), (0,), (1, 2)), True, False])

    def test_a_system_without_columns(self):
        system = System(2, RING)
        self.assertEqual([system.is_possible, system.narrowest, system.widest], [False, None, None])
        self.assertEqual(str(system), "2 lines, 6 demands, impossible")
        self.assertIs(is_ring(system, system.ring()), True)
        self.assertEqual([list(system.each(5)), system.is_met((0, 0))], [[], False])

    def test_without_lines(self):
        system = System(0)
        self.assertEqual([system.many, system.demands, system.all_demands, system.narrowest, system.widest],
                         [0, (), (), (), ()])
        self.assertEqual([str(system), system.ties(), system.forced(-1, -1), system.chain(-1, -1)],
                         ["0 lines, 0 demands, possible", ((-1,),), 0, ()])
        self.assertEqual([list(system.each(9)), list(system.each(0)), system.is_met(())], [[()], [], True])
        system = System(0, ((-1, -1, 1),))
        self.assertEqual([system.is_possible, system.ring()], [False, ((-1, -1, 1),)])
        self.assertEqual(System(0, ((-1, -1, 0),)).narrowest, ())

    def test_a_line_and_itself(self):
        self.assertTrue(System(1, ((0, 0, 0), (0, 0, -5))).is_possible)
        system = System(1, ((0, 0, 1),))
        self.assertEqual([system.is_possible, system.ring()], [False, ((0, 0, 1),)])

    def test_the_rows_of_the_document(self):
        system = System.wanting(Wanted.of(py_book(), loop_text()))
        self.assertEqual([system.many, system.demands], [4, Wanted.of(py_book(), loop_text()).demands])
        self.assertEqual([system.narrowest, system.widest], [(0, 1, 2, 1), (0, 198, 199, 198)])
        self.assertEqual(system.ties(), ((-1, 0), (1, 3), (2,)))
        self.assertEqual(len(system), len(set(system.demands)))

    def test_names(self):
        told = {System: "(many, demands=())", System.wanting: "(wanted)", System.ring: "(self)",
                System.forced: "(self, upper, lower)", System.chain: "(self, upper, lower)",
                System.range_of: "(self, line)", System.are_tied: "(self, one, other)", System.ties: "(self)",
                System.is_met: "(self, columns)", System.fixed: "(self, line, column)",
                System.with_demands: "(self, *demands)", System.joined: "(self, other)",
                System.implies: "(self, value)", System.is_alike: "(self, value)", System.each: "(self, limit)",
                is_chain: "(system, upper, lower, value)", is_ring: "(system, value)", span: "(system, line, column)"}
        for call, parameters in told.items():
            self.assertEqual(str(inspect.signature(call)), parameters, call)


class TestByForce(unittest.TestCase):
    def test_columns(self):
        chance = random.Random(41)
        for _ in range(1500):
            many = chance.randint(0, 3)
            demands = random_demands(chance, many)
            system, columns = bounded(many, demands), columns_by_force(many, demands)
            self.assertEqual(list(system.each(10 ** 9)), columns, demands)
            self.assertEqual(list(system.each(3)), columns[:3])
            self.assertEqual(system.is_possible, columns != [])
            for chosen in itertools.product(range(GREATEST + 1), repeat=many):
                self.assertEqual(system.is_met(chosen), chosen in columns)
            if columns:
                self.check_extremes(system, columns)
            else:
                self.assertIs(is_ring(system, system.ring()), True)
                self.assertEqual([system.narrowest, system.widest], [None, None])

    def check_extremes(self, system, columns):
        """All that is told of the columns, beside all of the columns."""
        many = system.many
        whole = [chosen + (0,) for chosen in columns]
        self.assertEqual(system.narrowest, tuple(min(chosen[at] for chosen in columns) for at in range(many)))
        self.assertEqual(system.widest, tuple(max(chosen[at] for chosen in columns) for at in range(many)))
        self.assertIsNone(system.ring())
        for upper, lower in itertools.product(range(-1, many), repeat=2):
            found = {chosen[upper] - chosen[lower] for chosen in whole}
            self.assertEqual(system.forced(upper, lower), min(found))
            chain = system.chain(upper, lower)
            self.assertIs(is_chain(system, upper, lower, chain), True)
            self.assertEqual(length(chain), min(found))
            self.assertEqual(chain == (), upper == lower)
            self.assertIs(system.are_tied(upper, lower), len(found) == 1)
            for least in range(-GREATEST - 1, GREATEST + 2):
                self.assertIs(system.implies((upper, lower, least)), least <= min(found))
        for line in range(many):
            self.assertEqual(system.range_of(line), (system.narrowest[line], system.widest[line]))
            for column in range(GREATEST + 2):
                kind, shown = span(system, line, column)
                if any(chosen[line] == column for chosen in columns):
                    self.assertEqual([kind, shown in columns, shown[line]], ["columns", True, column])
                else:
                    self.assertEqual([kind, is_ring(system.fixed(line, column), shown)], ["ring", True])
        ties = [tuple(other for other in range(-1, many) if system.are_tied(place, other)) for place in range(-1, many)]
        self.assertEqual(system.ties(), tuple(sorted(set(ties))))

    def test_alike_and_implied(self):
        chance = random.Random(42)
        alike = 0
        for _ in range(1500):
            many = chance.randint(0, 2)
            one, other = (random_demands(chance, many, 4) for _ in range(2))
            systems = [bounded(many, one), bounded(many, other)]
            expected = columns_by_force(many, one) == columns_by_force(many, other)
            alike += expected
            self.assertIs(systems[0].is_alike(systems[1]), expected)
            both = systems[0].joined(systems[1])
            self.assertEqual(list(both.each(10 ** 6)), columns_by_force(many, one + other))
        self.assertGreater(alike, 100)

    def test_large_systems(self):
        chance = random.Random(43)
        for turn in range(12):
            columns = tuple(chance.randint(0, 150) for _ in range(60))
            demands = []
            while len(demands) < 600:
                upper, lower = chance.randint(-1, 59), chance.randint(-1, 59)
                least = (columns + (0,))[upper] - (columns + (0,))[lower] - chance.choice((0, 0, 1, 5))
                demands.append((upper, lower, max(least, -199)))
            if turn % 3 == 2:
                upper, lower, least = demands[0]
                demands[1] = (lower, upper, max(-least, -199))
                demands[2] = (upper, lower, min(least + 1, 199))
            system = System(60, tuple(demands))
            if system.is_possible:
                for met in (columns, system.narrowest, system.widest):
                    self.assertTrue(system.is_met(met))
                for upper, lower in itertools.product(range(-1, 60, 3), repeat=2):
                    chain = system.chain(upper, lower)
                    self.assertTrue(is_chain(system, upper, lower, chain))
                    self.assertEqual(length(chain), system.forced(upper, lower))
                found = list(system.each(40))
                self.assertEqual([found, len(set(found))], [sorted(found), len(found)])
                self.assertTrue(all(system.is_met(chosen) for chosen in found))
            else:
                self.assertTrue(is_ring(system, system.ring()))

    def test_long_chains_and_rings(self):
        steps = tuple((at + 1, at, 3) for at in range(59))
        system = System(60, steps)
        self.assertEqual([system.chain(59, 0), system.forced(59, 0)], [steps, 177])
        self.assertEqual([system.narrowest[59], system.widest[0], system.range_of(30)], [177, 22, (90, 112)])
        for last in (-176, -177):
            system = System(60, steps + ((0, 59, last),))
            self.assertEqual(system.is_possible, last == -177)
        ring = System(60, steps + ((0, 59, -176),)).ring()
        self.assertEqual([len(ring), length(ring)], [60, 1])
        self.assertFalse(System(60, tuple((at + 1, at, 4) for at in range(59))).is_possible)
        self.assertTrue(System(2, ((1, 0, 199),)).is_possible)
        self.assertFalse(System(3, ((1, 0, 199), (2, 1, 1))).is_possible)


class TestEach(unittest.TestCase):
    def test_the_order(self):
        system = System(2, ((1, 0, 1), (-1, 1, -2)))
        self.assertEqual(list(system.each(SIXTY)), [(0, 1), (0, 2), (1, 2)])
        self.assertEqual([list(system.each(0)), list(system.each(1)), list(system.each(2))],
                         [[], [(0, 1)], [(0, 1), (0, 2)]])

    def test_it_goes_step_by_step(self):
        found = System(60).each(SIXTY)
        self.assertEqual([next(found), next(found)], [(0,) * 60, (0,) * 59 + (1,)])
        found = list(System(2).each(201))
        self.assertEqual([found[199], found[200]], [(0, 199), (1, 0)])

    def test_all_at_the_bounds(self):
        found = list(System(1).each(1000))
        self.assertEqual(found, [(column,) for column in range(200)])


class TestRows(unittest.TestCase):
    def test_columns_of_a_row(self):
        chance = random.Random(44)
        for _ in range(300):
            book = random_book(chance)
            text = random_text(chance, book, chance.randint(1, 5), (0, 1, 2, 3))
            reading = Reading(book, text)
            if reading.fault is None:
                system = System.wanting(Wanted.of(book, text))
                for columns in [system.narrowest, system.widest] + list(system.each(20)):
                    self.assertEqual(Reading(book, text.at(columns)).parts, reading.parts)
                self.assertTrue(all(least <= column for least, column in zip(system.narrowest, text.columns)))
                self.assertTrue(all(column <= most for column, most in zip(text.columns, system.widest)))
                for line in range(len(text)):
                    chain = system.chain(line, -1)
                    self.assertEqual(length(chain), system.narrowest[line])


class TestJudges(Refusing):
    def test_chains(self):
        system = System(3, CHAIN)
        good = [(2, 0, ((1, 0, 1), (2, 1, 0))), (1, 0, ((1, 0, 1),)), (1, 0, ((1, 0, 1), (2, 1, 0), (1, 2, 0))),
                (1, 0, ((-1, 0, -199), (1, -1, 0))), (1, -1, ((1, -1, 0),)), (-1, 2, ((-1, 2, -199),)), (2, 2, ()),
                (-1, -1, ()), (1, 1, ((2, 1, 0), (1, 2, 0)))]
        for upper, lower, chain in good:
            self.assertIs(is_chain(system, upper, lower, chain), True)
        wrong = [(2, 0, ()), (0, 2, ((1, 0, 1), (2, 1, 0))), (2, 0, ((2, 1, 0), (1, 0, 1))), (1, 0, ((1, 0, 0),)),
                 (1, 0, ((1, 0, 1), (2, 1, 0))), (1, 0, ((1, 0, True),)), (1, 0, ((True, 0, 1),)), (1, 0, [(1, 0, 1)]),
                 (1, 0, ([1, 0, 1],)), (1, 0, (1, 0, 1)), (1, 0, ((1, 0, 1), None)), (0, 0, ((0, 0, 0),)),
                 (1, 0, ((1, False, 1),)), (1, 0, "chain"), (1, -1, ((1, -1, 1),))]
        for upper, lower, value in wrong:
            self.assertIs(is_chain(system, upper, lower, value), False, (upper, lower, value))
        for value in odd_values():
            self.assertIs(is_chain(system, 1, 0, value), False)
            self.assertIs(is_chain(system, 1, 1, value), value == () and isinstance(value, tuple))

    def test_rings(self):
        system = System(2, RING)
        for ring in (RING, (RING[1], RING[0]), RING * 3, ((0, 1, 1), (-1, 0, -199), (1, -1, 0)) + RING * 200):
            self.assertIs(is_ring(system, ring), True)
        wrong = [(), RING[:1], ((0, 1, 1), (1, 0, 1)), ((1, 0, 0), (0, 1, True)), ((0, 1, 1), (1, -1, 0)), list(RING),
                 ((1, -1, 0), (-1, 1, -199)), (RING[0], list(RING[1])), (RING, RING),
                 ((0, 1, 1), (-1, 0, -199), (1, -1, 0)),
                 ((0, 1, 1), (-1, 0, -199), (1, -1, 0)) + RING * 100, (None,), (None, RING[0]),
                 (RING[0], None), ((0,), RING[0])]
        for value in wrong + odd_values():
            self.assertIs(is_ring(system, value), False, value)
        level = System(2, ((0, 1, 1), (1, 0, -1), (0, 1, 0)))
        self.assertIs(is_ring(level, ((0, 1, 1), (1, 0, -1))), False)
        self.assertIs(is_ring(System(2), RING), False)

    def test_systems_and_places(self):
        system = System(3, CHAIN)
        for value in odd_values() + [CHAIN]:
            self.assert_refused(InvalidOperation, "no", is_chain, value, None, None, ())
            self.assert_refused(InvalidOperation, "no", is_ring, value, ())
            self.assert_refused(InvalidOperation, "no", span, value, None, None)
        for value in [3, -2, SIXTY] + no_integers():
            self.assert_refused(InvalidNumber, value, is_chain, system, value, 7, ())
            self.assert_refused(InvalidNumber, value, is_chain, system, 0, value, ())
        self.assertIs(is_chain(System(2, RING), 0, 1, RING[:1]), True)


class TestErrors(Refusing):
    def test_making(self):
        for value in [61, -1, SIXTY] + no_integers():
            self.assert_refused(InvalidNumber, value, System, value, None)
        wrong = [((2, 0, 0),), ((0, 2, 0),), ((-2, 0, 0),), ((0, 0, 200),), ((0, 0, -200),), ((True, 0, 0),),
                 [(0, 1, 0)],
                 ((0, 1),), ((0, 1, 0, 0),), ([0, 1, 0],), (None,), (0, 1, 0), ((0, 1, "0"),), ((0, 1, False),),
                 ((0, 1, 0),) * 601]
        for value in wrong + [value for value in odd_values() if value != ()]:
            self.assert_refused(InvalidDemand, "no", System, 2, value)
        self.assertEqual([len(System(2, ((0, 1, 0),) * 600)), System(60).many, System(2, ((0, 1, 199),)).is_possible],
                         [5, 60, True])
        self.assertEqual(len(System(60, ((59, -1, 3),))), 121)

    def test_wanting(self):
        for value in odd_values() + [System(2), loop_text()]:
            self.assert_refused(InvalidOperation, "no", System.wanting, value)

    def test_places(self):
        possible, impossible = System(2), System(2, RING)
        for system in (possible, impossible):
            for call in (system.forced, system.chain, system.are_tied):
                for value in [2, -2, SIXTY] + no_integers():
                    self.assert_refused(InvalidNumber, value, call, value, 9)
                    self.assert_refused(InvalidNumber, value, call, 0, value)
            for value in [2, -1, SIXTY] + no_integers():
                self.assert_refused(InvalidNumber, value, system.range_of, value)
        for call in (impossible.forced, impossible.chain, impossible.are_tied):
            self.assert_refused(NoColumns, 2, call, 0, -1)
            self.assert_refused(NoColumns, 2, call, 1, 1)
        self.assert_refused(NoColumns, 2, impossible.range_of, 1)
        self.assert_refused(NoColumns, 2, impossible.ties)
        self.assert_refused(NoColumns, 0, System(0, ((-1, -1, 1),)).ties)

    def test_is_met(self):
        wrong = [(), (0,), (0, 1, 2), [0, 1], (0, 200), (-1, 0), (0, True), (0, "1"), (0, None), (0, SIXTY), (0, (1,))]
        for system in (System(2), System(2, RING)):
            for value in wrong + [value for value in odd_values() if not isinstance(value, tuple)]:
                self.assert_refused(InvalidText, "no", system.is_met, value)
        self.assertEqual([System(2).is_met((0, 199)), System(2, ((1, 0, 1),)).is_met((5, 5))], [True, False])

    def test_fixed(self):
        system = System(3, CHAIN)
        self.assertEqual(system.fixed(1, 4).demands, CHAIN + ((1, -1, 4), (-1, 1, -4)))
        self.assertEqual([system.fixed(1, 4).narrowest, system.fixed(1, 4).widest], [(0, 4, 4), (3, 4, 4)])
        self.assertFalse(system.fixed(1, 0).is_possible)
        self.assertEqual(system, System(3, CHAIN))
        full = System(3, ((1, 0, 1),) * 599)
        for call in (lambda line, column: span(system, line, column), system.fixed, full.fixed):
            for value in [3, -1, SIXTY] + no_integers():
                self.assert_refused(InvalidNumber, value, call, value, None)
            for value in [200, -1, SIXTY] + no_integers():
                self.assert_refused(InvalidNumber, value, call, 0, value)
        self.assert_refused(InvalidDemand, "no", full.fixed, 0, 0)
        self.assert_refused(InvalidDemand, "no", span, full, 0, 0)
        self.assertEqual(len(System(3, ((1, 0, 1),) * 598).fixed(0, 0).demands), 600)

    def test_span(self):
        system = System(3, CHAIN)
        self.assertEqual(span(system, 1, 199)[1][1], 199)
        kind, ring = span(system, 1, 0)
        self.assertEqual([kind, is_ring(system.fixed(1, 0), ring)], ["ring", True])
        self.assertEqual(span(System(2, RING), 0, 5)[0], "ring")

    def test_with_demands(self):
        system = System(2, ((1, 0, 1),))
        self.assertEqual(system.with_demands((0, -1, 3), (1, 0, 1)).demands, ((1, 0, 1), (0, -1, 3), (1, 0, 1)))
        self.assertEqual(system.with_demands(), system)
        for value in [(2, 0, 0), (0, 1, 200), [0, 1, 0], ((0, 1, 0),), (0, 1, True)] + odd_values():
            self.assert_refused(InvalidDemand, "no", system.with_demands, value)
            self.assert_refused(InvalidDemand, "no", system.with_demands, (0, 1, 0), value)
        self.assert_refused(InvalidDemand, "no", system.with_demands, *((1, 0, 1),) * 600)
        self.assertEqual(len(system.with_demands(*((1, 0, 1),) * 599).demands), 600)
        self.assertEqual(system.demands, ((1, 0, 1),))

    def test_joined(self):
        one, other = System(2, ((1, 0, 1),)), System(2, ((0, -1, 3), (1, 0, 1)))
        self.assertEqual(one.joined(other).demands, ((1, 0, 1), (0, -1, 3), (1, 0, 1)))
        for value in odd_values() + [System(1), System(3), ((1, 0, 1),)]:
            self.assert_refused(InvalidOperation, "no", one.joined, value)
        full = System(2, ((1, 0, 1),) * 600)
        self.assert_refused(InvalidDemand, "no", full.joined, one)
        self.assert_refused(InvalidOperation, "no", full.joined, System(3))
        self.assertEqual(full.joined(System(2)), one)

    def test_implies(self):
        system, none = System(2, ((1, 0, 1),)), System(2, RING)
        self.assertEqual([system.implies((1, 0, 1)), system.implies((1, 0, 2)), system.implies((1, -1, 1)),
                          system.implies((0, 0, 0)), system.implies((0, 0, 1)), none.implies((0, 0, 1))],
                         [True, False, True, True, False, True])
        wrong = [(2, 0, -199), (0, 2, -199), (1, 0, True), (True, 0, 0), [1, 0, 1], (1, 0), (1, 0, -200), ((1, 0, 1),)]
        for value in wrong + odd_values():
            self.assertIs(system.implies(value), False)
            self.assertIs(none.implies(value), False)

    def test_is_alike(self):
        one = System(2, ((1, 0, 1), (0, -1, 2)))
        for other in (System(2, ((0, -1, 2), (1, 0, 1))), System(2, ((0, -1, 2), (1, 0, 1), (1, -1, 3))), one):
            self.assertIs(one.is_alike(other), True)
        for value in odd_values() + [System(2), System(3, ((1, 0, 1), (0, -1, 2))), System(2, RING), ((1, 0, 1),)]:
            self.assertIs(one.is_alike(value), False)
        self.assertIs(System(2, RING).is_alike(System(2, ((0, 0, 1),))), True)
        self.assertIs(System(2, RING).is_alike(System(3, RING)), False)

    def test_each(self):
        for system in (System(2), System(2, RING)):
            for value in [-1, -SIXTY] + no_integers():
                found = system.each(value)
                self.assert_refused(InvalidNumber, value, lambda: next(found))

    def test_equality(self):
        made = [System(2), System(3), System(2, ((1, 0, 1),)), System(2, RING), System(2, ((1, 0, 1), (1, -1, 1)))]
        for one, other in itertools.product(enumerate(made), repeat=2):
            self.assertEqual([one[1] == other[1], one[1] != other[1]], [one[0] == other[0], one[0] != other[0]])
        self.assertEqual(System(2, ((1, 0, 1), (0, -1, 2))), System(2, ((0, -1, 2), (1, 0, 1), (1, 0, 1), (0, -1, 0))))
        for value in odd_values() + [made[0].all_demands]:
            self.assertFalse(made[0] == value)
        with self.assertRaises(TypeError):
            list(made[0])

    def test_it_never_changes(self):
        system = System(3, CHAIN)
        for name in ("many", "demands", "all_demands", "is_possible", "narrowest", "widest"):
            with self.assertRaises(AttributeError):
                setattr(system, name, 1)
        demands = list(CHAIN)
        kept = System(3, tuple(demands))
        demands.clear()
        self.assertEqual(kept.demands, CHAIN)


if __name__ == "__main__":
    unittest.main()
