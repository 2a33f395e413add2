"""The main statements [0.16] to [0.26], over the whole program."""

import itertools
import random
import unittest

from offside.base.books import Book
from offside.base.texts import Text
from offside.book.order import does_extend, parting_text
from offside.demand.changes import is_flow, least_change, price, repaired, worth
from offside.demand.columns import System, is_chain, is_ring
from offside.demand.places import joint, menu, pastes, portable, shifts, stops
from offside.demand.rows import Wanted, first_impossible
from offside.effect.alike import is_alike
from offside.effect.pauses import Effect
from offside.read.reading import Reading
from offside.text.shell import Shell
from offside.tower.tower import Tower
from offside.use.project import Project
from tests.values import case_text, hs_book, kinds_of_books, loop_text, py_book, random_book, random_text


def length(chain):
    return sum(demand[2] for demand in chain)


def joined_book(chance):
    """A book under which most texts are read."""
    return random_book(chance).joining(deep="joins", gap="joins")


def texts_read(chance, many, most=5, columns=(0, 1, 2, 3, 7)):
    """So many pairs of a book and a text that it reads."""
    found = []
    while len(found) < many:
        book = chance.choice((joined_book, random_book))(chance)
        text = random_text(chance, book, chance.randint(1, most), columns)
        if Reading(book, text).fault is None:
            found.append((book, text))
    return found


def renamed_text(text, names):
    return Text(*[(column, tuple(names.get(word, word) for word in words)) for column, words in text])


class TestColumns(unittest.TestCase):
    def test_columns_of_rows(self):
        """[0.18]: narrowest ones with chains from the ground, widest ones, or a ring."""
        for book, text in texts_read(random.Random(131), 60):
            system = System.wanting(Wanted.of(book, text))
            for line in range(len(text)):
                chain = system.chain(line, -1)
                self.assertTrue(is_chain(system, line, -1, chain))
                self.assertEqual(length(chain), system.narrowest[line])
                self.assertLessEqual(system.narrowest[line], text.columns[line])
                self.assertGreaterEqual(system.widest[line], text.columns[line])
            for columns in (system.narrowest, system.widest):
                self.assertEqual(Reading(book, text.at(columns)).parts, Reading(book, text).parts)

    def test_columns_of_several_rows(self):
        """[0.18]: the same for several books at once."""
        for book, text in texts_read(random.Random(132), 60):
            rows = [Wanted.of(other, text) for other in (book, book.joining(deep="joins"), book.joining(gap="joins"))
                    if Reading(other, text).fault is None]
            kind, columns = portable(*rows)
            self.assertEqual(kind, "columns")
            for row in rows:
                self.assertEqual(Reading(row.book, text.at(columns)).parts, row.wanted)
            system = joint(*rows)
            for line in range(len(text)):
                self.assertEqual(length(system.chain(line, -1)), columns[line])

    def test_intervals(self):
        """[0.19]: columns of a line, differences and shifts are intervals; demands show their ends."""
        for book, text in texts_read(random.Random(133), 25, 3):
            row = Reading(book, text).parts
            system = System.wanting(Wanted.of(book, text))
            for line in range(len(text)):
                least, greatest = system.range_of(line)
                for column in {least, (least + greatest) // 2, greatest}:
                    columns = system.fixed(line, column).narrowest
                    self.assertEqual([columns[line], Reading(book, text.at(columns)).parts], [column, row])
                for column in {least - 1, greatest + 1} & set(range(200)):
                    self.assertFalse(system.fixed(line, column).is_possible)
                moves = shifts(book, text, line, line + 1)
                for end, demand in zip(moves, stops(book, text, line, line + 1)):
                    self.assertIn(demand, system.all_demands)
                    self.assertIn(line, demand[:2])
            for upper, lower in itertools.permutations(range(-1, len(text)), 2):
                self.assertEqual(length(system.chain(upper, lower)), system.forced(upper, lower))

    def test_least_changes_and_flows(self):
        """[0.20]: the least price is the greatest worth of a flow."""
        chance = random.Random(134)
        for book, text in texts_read(chance, 60):
            system = System.wanting(Wanted.of(book, text))
            given = tuple(chance.randint(0, 9) for _ in text)
            weights = tuple(chance.choice((0, 1, 5, 1000)) for _ in text)
            kind, others, flow = least_change(system, given, weights)
            self.assertEqual([kind, is_flow(system, weights, flow)], ["change", True])
            self.assertEqual(worth(system, given, flow), price(given, others, weights))
            self.assertLessEqual(price(given, others, weights), price(given, text.columns, weights))
            self.assertEqual(Reading(book, text.at(others)).parts, Reading(book, text).parts)

    def test_books_that_do_not_extend(self):
        """[0.23]: a text of at most three lines shows it."""
        chance = random.Random(135)
        for _ in range(100):
            one, other = random_book(chance), random_book(chance)
            if not does_extend(one, other):
                text = parting_text(one, other)
                self.assertLessEqual(len(text), 3)
                self.assertIsNone(Reading(other, text).fault)
                self.assertNotEqual(Reading(one, text).parts, Reading(other, text).parts)


class TestWhatIsNotTrue(unittest.TestCase):
    """[0.25], each sentence with a text in which it is false."""

    def test_lines_moved_together(self):
        text = Text((0, ("of",)), (2, ("a",)), (2, ("b",)))
        moved = Text((0, ("of",)), (0, ("a",)), (0, ("b",)))
        self.assertEqual([one[0] - other[0] for one, other in zip(text, moved)], [0, 2, 2])
        self.assertNotEqual(Reading(hs_book(), text).row(), Reading(hs_book(), moved).row())
        self.assertEqual(shifts(hs_book(), text, 1, 3)[0], -1)

    def test_depth_and_nesting(self):
        reading = Reading(py_book(), loop_text())
        self.assertEqual([reading.depth(2), reading.states[3][0][-1]], [2, (8, "if")])
        level = Book({"key": ("level", "filled")})
        reading = Reading(level, Text((0, ("key",)), (0, ("key",)), (0, ("a",))))
        self.assertEqual(reading.states[3][0], ((0, "key"), (0, "key")))
        # Also the narrowest columns need not be the nesting: brackets have no columns of lines.
        row = Wanted.of(py_book(), Text((0, ("lp", "if")), (0, ("a",)), (0, ("rp",))))
        self.assertEqual([System.wanting(row).narrowest, row.piles[2]], [(0, 0, 0), ((0, "lp"), (1, "if"))])

    def test_equal_signs_in_one_text(self):
        one, other = Text((4, ("b",))), Text((5, ("b",)))
        ahead, behind = Text((0, ("of",))), Text()
        rows = [Reading(hs_book(), ahead + part + behind).row() for part in (one, other)]
        self.assertEqual(rows[0], rows[1])
        self.assertFalse(is_alike(hs_book(), one, other))
        behind = Text((4, ("c",)))
        rows = [Reading(hs_book(), ahead + part + behind).row() for part in (one, other)]
        self.assertNotEqual(rows[0], rows[1])

    def test_the_fewest_lines(self):
        # One line would do, but it weighs more than the two others together.
        book = Book({"of": ("deeper", "filled")})
        words = (("of",), ("b",), ("c",), ("d",))
        row = Reading(book, Text.made((0, 5, 5, 5), words)).row()
        heavy = Text.made((0, 9, 5, 5), words)
        found = repaired(book, heavy, row, (1, 1000, 1, 1))
        self.assertEqual(found.columns, (0, 9, 9, 9))
        self.assertEqual([price(heavy.columns, columns, (1, 1000, 1, 1)) for columns in ((0, 5, 5, 5), (0, 9, 9, 9))],
                         [4000, 8])

    def test_books_that_read_a_text_alike(self):
        one, other = Book({"o": ("deeper", "empty")}), Book({"o": ("level", "empty")})
        text = Text((0, ("o",)), (3, ("a",)), (0, ("b",)))
        self.assertEqual(Reading(one, text).row(), Reading(other, text).row())
        one, other = Book({}, deep="joins"), Book({}, deep="breaks")
        text = Text((0, ("a",)))
        self.assertEqual(Reading(one, text).row(), Reading(other, text).row())
        # With these columns one of them keeps its signs, and the other one reads other signs.
        one, other = Book({"o": ("deeper", "filled")}), Book({"o": ("level", "filled")})
        nested = Text((0, ("o",)), (1, ("o",)), (2, ("a",)))
        flat = nested.at((0, 0, 0))
        self.assertEqual(Reading(one, nested).row(), Reading(other, nested).row())
        self.assertEqual(Reading(other, flat).row(), Reading(other, nested).row())
        self.assertEqual(Reading(one, flat).fault, (1, "filled"))


class TestWhatIsTrue(unittest.TestCase):
    """[0.26]"""

    def test_maps_of_columns(self):
        chance = random.Random(141)
        for _ in range(300):
            book = random_book(chance)
            text = random_text(chance, book, chance.randint(1, 6), (0, 1, 2, 3, 4))
            steps = [0] + sorted(chance.sample(range(1, 200), 4))
            mapped = text.at(tuple(steps[column] for column in text.columns))
            one, other = Reading(book, text), Reading(book, mapped)
            self.assertEqual([one.parts, one.fault], [other.parts, other.fault])

    def test_between_brackets(self):
        chance = random.Random(142)
        for book in kinds_of_books():
            for _ in range(60):
                text = Text((0, ("x", "l"))) + random_text(chance, book, chance.randint(1, 4), (0, 1, 2, 3))
                reading = Reading(book, text, is_open=True)
                if reading.fault is not None and reading.fault[1] in ("deep", "gap"):
                    # The line stands in a block, or behind the bracket's end.
                    pile = reading.last_state[0]
                    self.assertFalse(pile and pile[-1][0] == -1)
            for column in (0, 3, 199):
                for words in (("x",), ("y", "o")):
                    told = menu(book, Text((0, ("l",)), (2, ("x",))), words)
                    self.assertEqual(told, ((0, 199, words),))

    def test_plain_words_renamed(self):
        chance = random.Random(143)
        for _ in range(200):
            book = random_book(chance)
            text = random_text(chance, book, chance.randint(1, 5), (0, 1, 2, 3))
            names = {"x": "plain", "y": "words"}
            one, other = Reading(book, text), Reading(book, renamed_text(text, names))
            self.assertEqual([tuple(tuple(names.get(sign, sign) for sign in part) for part in one.parts), one.fault],
                             [other.parts, other.fault])
            self.assertEqual([one.blocks, one.states], [other.blocks, other.states])

    def test_lines_behind(self):
        chance = random.Random(144)
        for _ in range(300):
            book = random_book(chance)
            text = random_text(chance, book, chance.randint(1, 4), (0, 1, 2, 3))
            more = random_text(chance, book, chance.randint(1, 3), (0, 1, 2, 3))
            one = Reading(book, text, is_open=True)
            other = Reading(book, text + more, is_open=True)
            self.assertEqual(other.parts[:len(text)], one.parts)
            if one.fault is not None:
                self.assertEqual(other.fault, one.fault)


class TestDemands(unittest.TestCase):
    def test_rows_and_their_demands(self):
        """[0.16]: no columns give a row, which shows at a line; or those that meet its demands do."""
        chance = random.Random(145)
        kinds = {"impossible": 0, "possible": 0}
        for _ in range(400):
            book = random_book(chance)
            text = random_text(chance, book, chance.randint(0, 2), (0, 1, 2))
            row = Reading(random_book(chance) if chance.random() < .3 else book.joining(deep="joins"), text).parts
            if len(row) != len(text) + 1:
                continue
            given = [columns for columns in itertools.product(range(4), repeat=len(text))
                     if Reading(book, text.at(columns)).parts == row]
            if first_impossible(book, text.words, row) is None:
                kinds["possible"] += 1
                wanted = Wanted(book, text.words, row)
                self.assertEqual(given, [columns for columns in itertools.product(range(4), repeat=len(text))
                                         if wanted.is_read_by(columns)])
                for line in range(len(text)):
                    self.assertLessEqual({(line, -1, 0), (-1, line, -199)}, set(wanted.demands))
            else:
                kinds["impossible"] += 1
                self.assertEqual(given, [])
        self.assertGreater(min(kinds.values()), 20)


class TestStretches(unittest.TestCase):
    def test_a_part_exchanged_for_an_alike_one(self):
        """[0.21]: the signs of the other lines stay, in a reading and in a tower."""
        chance = random.Random(146)
        exchanged = 0
        for _ in range(1500):
            book = random_book(chance).joining(deep=chance.choice((None, "joins")), gap="joins")
            one = random_text(chance, book, chance.randint(1, 2), (0, 1, 2, 3))
            other = one.at(tuple(column + chance.choice((0, 1)) for column in one.columns))
            if one == other or not is_alike(book, one, other):
                continue
            for _ in range(5):
                ahead = random_text(chance, book, chance.randint(0, 3), (0, 1, 2))
                behind = random_text(chance, book, chance.randint(0, 3), (0, 1, 2))
                readings = [Reading(book, ahead + part + behind) for part in (one, other)]
                self.assertEqual(readings[0].fault is None, readings[1].fault is None)
                tower = Tower(book, ahead + one + behind)
                before = [tower.signs_of(at) for at in range(len(tower))]
                tower.delete(len(ahead), len(ahead) + len(one))
                tower.insert(len(ahead), other)
                after = [tower.signs_of(at) for at in range(len(tower))]
                if readings[0].fault is None:
                    self.assertEqual([readings[0].signs, before], [readings[1].signs, after])
                    self.assertEqual(tower.reading(), readings[1])
                    exchanged += 1
        self.assertGreater(exchanged, 60)

    def test_effects_of_parts(self):
        """[0.24]: what parts do, put together, is what the whole text does."""
        chance = random.Random(147)
        for book, text in texts_read(chance, 60, 8):
            state = ((), "")
            signs = ()
            bounds = sorted({0, len(text), chance.randint(0, len(text)), chance.randint(0, len(text))})
            tower = Tower(book, text)
            for first, last in itertools.pairwise(bounds):
                self.assertEqual(tower.state_ahead(first), state)
                more, state = tower.effect(first, last).at(state)
                signs += more
            reading = Reading(book, text, is_open=True)
            self.assertEqual([signs, state, tower.state_ahead(len(text))],
                             [reading.signs, reading.last_state, reading.last_state])
            self.assertEqual(signs, sum([tower.signs_of(at) for at in range(len(text))], ()))


class TestWordsRenamed(unittest.TestCase):
    """[0.26], over a whole session; words with a role are renamed by their book."""

    def told(self, value, names):
        """A value with other words in all of its tuples and texts."""
        if isinstance(value, Text):
            return renamed_text(value, names)
        if isinstance(value, tuple):
            return tuple(self.told(item, names) for item in value)
        return names.get(value, value) if isinstance(value, str) else value

    def session(self, book, text, chance):
        """All kinds of answers about a text."""
        row = Reading(book, text).row()
        wanted = Wanted.of(book, text)
        system = System.wanting(wanted)
        many = len(text)
        first = chance.randint(0, many - 1)
        last = chance.randint(first + 1, many)
        other = text.at(tuple(chance.randint(0, 6) for _ in text))
        part = text.part(first, last)
        tower = Tower(book, text)
        news = [tower.change(first, (chance.randint(0, 3), text[first][1])), tower.insert(many, part), tower.undo(),
                tower.move(first, last, shift=1), tower.delete(0, first)]
        project = Project(book)
        more = [project.put(0, line) for line in text] + [project.move(1, 1, 2)]
        shell = Shell(book)
        shell.run_all(*[f"line {column} {' '.join(words)}" for column, words in text])
        answers = shell.run_all("read", "want", "narrow", "wide", "forced 0 -1", "drop", "fix")
        return (row, Reading(book, text).states, Reading(book, text).blocks, wanted.demands, wanted.piles,
                system.narrowest, system.widest, shifts(book, text, first, last), stops(book, text, first, last),
                menu(book, part if Reading(book, part, is_open=True).fault is None else Text(), text[0][1]),
                pastes(book, text, first, part), repaired(book, other, row), tuple(news),
                tuple(tower.signs_of(at) for at in range(len(tower))), tower.state_ahead(0), str(tower), tuple(more),
                str(project), Effect(book, part).asked_at(((), "")), tuple(answers[1:]))

    def test_plain_words(self):
        chance = random.Random(148)
        for book, text in texts_read(chance, 60):
            names = {"x": "plain", "y": "word"}
            seed = chance.random()
            expected = self.told(self.session(book, text, random.Random(seed)), names)
            self.assertEqual(self.session(book, renamed_text(text, names), random.Random(seed)), expected)

    def test_words_with_roles(self):
        chance = random.Random(149)
        for book, text in texts_read(chance, 60):
            names = {word: f"z{word}" for word in book.words}
            seed = chance.random()
            expected = self.told(self.session(book, text, random.Random(seed)), names)
            found = self.session(book.renamed(names), renamed_text(text, names), random.Random(seed))
            self.assertEqual(found, expected)


class TestRings(unittest.TestCase):
    def test_no_columns_exactly_with_a_ring(self):
        """[0.18]: there are none exactly if there is a ring."""
        words = (("a", "of"), ("b",))
        block = Wanted(hs_book(), words, ((";", "a", "of"), ("{", "b"), ("}",)))
        level = Wanted(hs_book(), words, ((";", "a", "of"), ("{", "}", ";", "b"), ()))
        for rows in ((block,), (level,), (block, level)):
            system = joint(*rows)
            self.assertEqual(system.is_possible, len(rows) == 1)
            self.assertEqual(system.ring() is None, len(rows) == 1)
            if len(rows) == 2:
                self.assertTrue(is_ring(system, portable(*rows)[1]))
        self.assertEqual(Reading(hs_book(), case_text()).fault, None)


if __name__ == "__main__":
    unittest.main()
