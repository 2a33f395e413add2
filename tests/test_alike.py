"""Stretches that do the same in all texts: [7.1] to [7.3] and what stands under stage 7."""

import inspect
import itertools
import random
import unittest

from offside.base.books import Book
from offside.base.texts import Text
from offside.effect.alike import alike_paper, is_alike, is_alike_paper, least_parting
from offside.effect.links import Links
from offside.effect.pauses import Effect
from offside.errors import InvalidBook, InvalidText, TooMany
from offside.read.states import are_alike, states_upto
from offside.read.walk import Rules
from tests import naive
from tests.values import (Refusing, hs_book, kinds_of_books, loop_text, not_of, odd_values, py_book, random_book,
                          random_text)


def text(written):
    return Text.read(written)


def rich_book(deep="joins", gap="joins"):
    openers = {"o": ("deeper", "filled"), "p": ("level", "empty")}
    return Book(openers, {"e": "o"}, {"l": "r"}, deep=deep, gap=gap)


def wide_book():
    openers = {"a": ("deeper", "empty"), "b": ("level", "empty"), "c": ("deeper", "filled"), "d": ("level", "filled")}
    return Book(openers, {"e": "a", "f": "b", "g": "c"}, {"l": "r", "m": "n"}, deep="joins", gap="joins")


def text_near(chance, one, columns):
    """A text with another column, with a line that is divided, or with two lines that change places."""
    lines = list(one)
    at = chance.randrange(len(lines))
    column, words = lines[at]
    way = chance.randrange(4)
    if way == 0:
        lines[at] = (chance.choice(columns), words)
    elif way == 1 and len(words) > 1:
        lines[at:at + 1] = [(column, words[:1]), (chance.choice(columns), words[1:])]
    elif way == 2:
        lines = [(column + 1, words) for column, words in lines]
    else:
        lines = [(chance.choice(columns), words) for _, words in lines]
    return Text(*lines)


def told_apart_by(book, one, other, columns, most):
    """A small regular state from which two stretches do not do the same, or None."""
    for state in states_upto(book, columns, most):
        first = naive.read(book, one.lines, state, True)
        second = naive.read(book, other.lines, state, True)
        if first[1] and second[1]:
            continue
        if first[1] or second[1] or sum(first[0], ()) != sum(second[0], ()):
            return state
        if not are_alike(book, first[2][-1], second[2][-1]):
            return state
    return None


class Told:
    """The links of two stretches, told anew from the document, without any order."""

    def __init__(self, book, one, other):
        self.book = book
        self.sides = (Effect(book, one), Effect(book, other))
        self.deepest = max([column for column, _ in one.lines + other.lines], default=0)
        self.unlike = False

    def told_blocks(self):
        blocks = [(0, "")] + [(-1, word) for word in self.book.brackets]
        for word, (depth, _) in self.book.openers.items():
            first = 0 if depth == "level" or self.book.brackets else 1
            blocks += [(column, word) for column in range(first, self.deepest + 2)]
        return blocks

    def can_stand_beneath(self, last, block):
        if last == ():
            return True
        if last == (0, ""):
            return False
        if last[0] == -1:
            return True
        if last[0] == self.deepest + 1 == block[0]:
            return True
        column = block[0]
        return column < last[0] or (column == last[0] and self.book.openers[last[1]][0] == "level")

    def judged(self, signs, outcomes, last):
        """The link, or None; sets `unlike`."""
        kinds = [outcome[0] for outcome in outcomes]
        many = min(len(signs[0]), len(signs[1]))
        ahead = ()
        if signs[0] != "differ" and signs[0][:many] == signs[1][:many] and "broken" not in kinds:
            ahead = (signs[0][many:], signs[1][many:])
        if kinds == ["broken", "broken"]:
            return None
        if sorted(kinds) == ["broken", "done"]:
            self.unlike = True
            return None
        if kinds == ["done", "done"]:
            ends = [naive_class(self.book, outcome[1], outcome[2]) for outcome in outcomes]
            self.unlike = self.unlike or ahead != ((), ()) or ends[0] != ends[1]
            return None
        if "done" in kinds and (ahead == () or ahead[1 - kinds.index("done")]):
            self.unlike = True
        return (outcomes[0], outcomes[1], ahead, last)

    def first(self):
        found = []
        for waiting in ("",) + tuple(self.book.openers):
            told = [side.start(waiting) for side in self.sides]
            found.append(self.judged([signs for signs, _ in told], [outcome for _, outcome in told], ()))
        return [link for link in found if link is not None]

    def behind(self, link):
        found = []
        for block in self.told_blocks():
            if self.can_stand_beneath(link[3], block):
                signs, outcomes = [], []
                for side, outcome, ahead in zip(self.sides, link[:2], link[2] or ("differ", "differ")):
                    more = ()
                    if outcome[0] == "asks":
                        more, outcome = side.step(outcome[1], block)
                    elif outcome[0] == "done":
                        outcome = ("done", (block,) + outcome[1], outcome[2])
                    signs.append(ahead if ahead == "differ" else ahead + more)
                    outcomes.append(outcome)
                found.append(self.judged(signs, outcomes, block))
        return [link for link in found if link is not None]

    def explore(self):
        """All links, or None if something is unlike, and how many blocks were told then."""
        links = self.first()
        found = set(links)
        told = 0
        while links and not self.unlike:
            told += 1
            links = [link for one in links for link in self.behind(one) if link not in found]
            links = list(dict.fromkeys(links))
            found |= set(links)
        return (None, told) if self.unlike else (tuple(sorted(found)), None)


def naive_class(book, pile, waiting):
    ended = list(book.enders.values())
    blocks = [(column, word if word in book.brackets or word in ended else "") for column, word in pile]
    if not waiting:
        return blocks, ()
    depth = "" if pile and pile[-1][0] == -1 else book.openers[waiting][0]
    return blocks, (depth, book.openers[waiting][1], waiting if waiting in ended else "")


class TestExample(unittest.TestCase):
    def test_the_documents(self):
        hs, py = hs_book(), py_book()
        one, two, three = text("    b\n      c"), text("    b c"), text("    b\n       c")
        found = [is_alike(hs, one, two), is_alike(hs, one, three), is_alike(py, one, two),
                 is_alike(hs, text("    b"), text("     b"))]
        self.assertEqual(found, [True, True, False, False])
        found = [is_alike_paper(py, one, two, ("unlike", Text((0, ("x", "if"))), Text())),
                 is_alike_paper(hs, one, three, alike_paper(hs, one, three)), alike_paper(py, one, two)[0]]
        self.assertEqual(found, [True, True, "unlike"])
        found = [least_parting(hs, text("    b"), text("     b")), least_parting(hs, one, three),
                 least_parting(py, one, two)]
        self.assertEqual(found, [1, None, 1])

    def test_names(self):
        for call in (is_alike, alike_paper, least_parting):
            self.assertEqual(str(inspect.signature(call)), "(book, one, other)")
        self.assertEqual(str(inspect.signature(is_alike_paper)), "(book, one, other, value)")


class Comparing(unittest.TestCase):
    def assert_alike(self, book, one, other):
        for first, second in ((one, other), (other, one)):
            self.assertIs(is_alike(book, text(first), text(second)), True)
            self.assertIsNone(least_parting(book, text(first), text(second)))
            paper = alike_paper(book, text(first), text(second))
            self.assertEqual(paper[0], "alike")
            self.assertIs(is_alike_paper(book, text(first), text(second), paper), True)

    def assert_unlike(self, book, one, other, told):
        for first, second in ((text(one), text(other)), (text(other), text(one))):
            self.assertIs(is_alike(book, first, second), False)
            self.assertEqual(least_parting(book, first, second), told)
            paper = alike_paper(book, first, second)
            self.assertEqual(paper[0], "unlike")
            self.check_around(book, first, second, paper)

    def check_around(self, book, one, other, paper):
        """The two texts tell the stretches apart, by the plain program, too."""
        self.assertIs(is_alike_paper(book, one, other, paper), True)
        _, before, after = paper
        self.assertLessEqual(len(before) + len(one) + len(after), 60)
        self.assertLessEqual(len(before) + len(other) + len(after), 60)
        found = [naive.signs_read(book, before.lines + stretch.lines + after.lines) for stretch in (one, other)]
        self.assertNotEqual(found[0], found[1])


class TestKinds(Comparing):
    def test_the_same_stretch(self):
        for book in kinds_of_books():
            for written in ("", "x", "  x o\n   y", " x r\ne l\nx", "l\n x\n  o"):
                self.assert_alike(book, written, written)

    def test_a_divided_line(self):
        self.assert_alike(rich_book(), "  x y", "  x\n   y")
        self.assert_alike(rich_book(), "  x y", "  x\n        y")
        self.assert_unlike(rich_book(), "  x y", "  x\n  y", 1)
        self.assert_unlike(rich_book(deep="breaks"), "  x y", "  x\n   y", 1)
        self.assert_unlike(rich_book(), "  x o", "  x\n   y", 1)

    def test_between_brackets(self):
        self.assert_alike(rich_book(), "x l\ny\nr", "x l y r")
        self.assert_alike(rich_book("breaks", "breaks"), "x l\n   y\n r", "x l\ny r")
        self.assert_unlike(rich_book(), "x l o\n y\nr", "x l o y\nr", 1)

    def test_a_pile_beneath_that_must_have_a_bracket(self):
        self.assert_alike(rich_book(), "e p", "e p")
        self.assert_unlike(rich_book(), "e p", "e o", 1)

    def test_lines_that_begin_with_enders_or_closers(self):
        self.assert_alike(rich_book(), "e x", "    e x")
        self.assert_alike(rich_book(), "r", "  r")
        self.assert_alike(rich_book(), "r\n e", "  r\ne")
        # On a bracket both are read with the same signs; a block above it tells them apart.
        self.assert_unlike(rich_book(), "x r", "  x r", 2)
        self.assert_unlike(rich_book(), "e\nx", "e\n x", 2)

    def test_moved_lines(self):
        self.assert_unlike(rich_book(), "x", " x", 1)
        self.assert_unlike(rich_book(), "  x\n  y", "   x\n   y", 1)
        self.assert_alike(rich_book(), "  r", "   r")

    def test_other_words_and_no_lines(self):
        self.assert_unlike(rich_book(), "x", "y", 1)
        self.assert_unlike(rich_book(), "", "x", 1)
        # Behind p, which can be empty, the ender gives it an empty block.
        self.assert_unlike(rich_book(), "", "e", 0)
        book = Book({"p": ("level", "empty")}, {"e": "p"}, {})
        self.assert_unlike(book, "", "e", 0)
        self.assert_unlike(book, "", "x", 1)
        self.assert_alike(rich_book(), "", "")
        self.assert_alike(rich_book(), "x e e r e r", "x e e r e r")

    def test_at_the_beginning(self):
        # Behind p, which can be empty, an ender is read, while the plain word opens a block.
        self.assert_unlike(rich_book(), "e", "r", 1)
        self.assert_alike(rich_book(), "x l e", "x l e e")
        book = Book({"p": ("level", "empty"), "q": ("level", "filled")}, {"e": "p", "f": "p"}, {})
        self.assert_unlike(book, "e", "f", 1)

    def test_stretches_that_break_always(self):
        self.assert_alike(rich_book(), "x l e", "y l r r\nx l e")
        self.assert_alike(rich_book(), "l e", "x o\ne")
        self.assert_unlike(rich_book(), "l e", "x", 1)

    def test_deep_down(self):
        # The blocks that the enders end must all be told.
        self.assert_unlike(rich_book(), "e e e x", "e e e y", 3)
        self.assert_unlike(rich_book(), "r\nr\nr\n x", "r\nr\nr\n  x", 4)
        self.assert_unlike(rich_book("breaks", "breaks"), "e e\n x", "e e\n  x", 3)

    def test_a_column_that_stands_for_all_greater_ones(self):
        self.assert_unlike(rich_book(), "e e x", "e e y", 2)
        # Above the block (1, "o") the ground must be told, and beneath (2, "o") another (2, "o").
        self.assert_unlike(rich_book(), "e e e\n x", "e e e\n  x", 4)
        # Behind an opener that waits, the ground alone shows it.
        self.assert_unlike(rich_book(), " x e e", " x e", 1)


class TestBesideTheDocument(Comparing):
    def test_links_told_anew(self):
        chance = random.Random(21)
        for _ in range(250):
            book = random_book(chance)
            columns = chance.choice(((0, 1, 2), (0, 2), (1,)))
            one = random_text(chance, book, chance.choice((0, 1, 1, 2, 3)), columns)
            other = text_near(chance, one, columns) if len(one) else random_text(chance, book, 1, columns)
            links, told = Told(book, one, other).explore()
            self.assertEqual([is_alike(book, one, other), least_parting(book, one, other)], [told is None, told])
            paper = alike_paper(book, one, other)
            if told is None:
                self.assertEqual(paper, ("alike", links), (book.text, str(one), str(other)))
                self.assertTrue(is_alike_paper(book, one, other, ("alike", links)))
            else:
                self.check_around(book, one, other, paper)

    def test_from_all_small_states(self):
        chance = random.Random(22)
        alike = 0
        for _ in range(400):
            book = random_book(chance)
            columns = chance.choice(((0, 1, 2), (0, 2), (1,)))
            one = random_text(chance, book, chance.choice((1, 1, 2)), columns)
            other = text_near(chance, one, columns)
            state = told_apart_by(book, one, other, (0, 1, 2, 3, 4), 2 if len(book.openers) < 3 else 1)
            if is_alike(book, one, other):
                alike += 1
                self.assertIsNone(state, (book.text, str(one), str(other)))
            elif least_parting(book, one, other) < 2:
                self.assertIsNotNone(state, (book.text, str(one), str(other)))
        self.assertGreater(alike, 50)

    def test_texts_around_alike_ones(self):
        chance = random.Random(23)
        for _ in range(300):
            book = random_book(chance)
            one = random_text(chance, book, 2, (0, 1, 2))
            other = text_near(chance, one, (0, 1, 2))
            if is_alike(book, one, other):
                for _ in range(20):
                    before, after = (random_text(chance, book, chance.randint(0, 3), (0, 1, 2, 3)) for _ in range(2))
                    found = [naive.signs_read(book, before.lines + stretch.lines + after.lines)
                             for stretch in (one, other)]
                    self.assertEqual(found[0], found[1])
                    self.assertFalse(is_alike_paper(book, one, other, ("unlike", before, after)))


class TestPapers(Comparing):
    def test_links_that_are_wrong_in_one_place(self):
        one, other = text("  x y"), text("  x\n   y")
        paper = alike_paper(rich_book(), one, other)
        links = paper[1]
        self.assertGreater(len(links), 5)
        near = [links[1:], links[:-1], links + links[-1:], links[1:2] + links[:1] + links[2:], (), list(links),
                links[:3] + ((links[3][1], links[3][0]) + links[3][2:],) + links[4:]]
        for at, link in enumerate(links):
            near.append(links[:at] + links[at + 1:])
            near.append(links[:at] + (list(link),) + links[at + 1:])
            near.append(links[:at] + (link[:3],) + links[at + 1:])
            near.append(links[:at] + (link[:2] + (((), ("x",)),) + link[3:],) + links[at + 1:])
            near.append(links[:at] + (link[:3] + ((77, "o"),),) + links[at + 1:])
        near = [value for value in near if value != links]
        self.assertGreater(len(near), 4 * len(links))
        for value in near:
            self.assertIs(is_alike_paper(rich_book(), one, other, ("alike", value)), False)
        self.assertIs(is_alike_paper(rich_book(), one, other, paper), True)

    def test_values_of_another_form_in_a_link(self):
        one, other = text("  x y"), text("  x\n   y")
        links = alike_paper(rich_book(), one, other)[1]

        def with_each_exchanged(value, news):
            """The value with each of its items, at any depth, in the place of which stands each of these."""
            for new in news:
                yield new
            if isinstance(value, tuple):
                for at, item in enumerate(value):
                    for found in with_each_exchanged(item, news):
                        yield value[:at] + (found,) + value[at + 1:]

        for new in with_each_exchanged(links[2], [(0,), ("asks",), None, [], {}, "", 0, False, (), rich_book()]):
            value = links[:2] + (new,) + links[3:]
            if value != links:
                self.assertIs(is_alike_paper(rich_book(), one, other, ("alike", value)), False)

    def test_links_of_unlike_stretches(self):
        for written in (("  x", "   x"), ("e e x", "e e y"), ("", "e")):
            one, other = text(written[0]), text(written[1])
            links = Links(Rules(rich_book()), one.lines, other.lines)
            links.explore()
            self.assertEqual(links.least_told, least_parting(rich_book(), one, other))
            self.assertIs(is_alike_paper(rich_book(), one, other, ("alike", links.ascending())), False)

    def test_true_is_not_one(self):
        one, other = text(" x y"), text(" x\n  y")
        links = alike_paper(rich_book(), one, other)[1]

        def exchanged(value, old, new):
            if isinstance(value, tuple):
                return tuple(exchanged(item, old, new) for item in value)
            return new if type(value) is type(old) and value == old else value

        for old, new in ((True, 1), (False, 0), (0, False)):
            changed = exchanged(links, old, new)
            self.assertEqual([changed, repr(changed) == repr(links)], [links, False])
            self.assertIs(is_alike_paper(rich_book(), one, other, ("alike", changed)), False)

    def test_other_values(self):
        pairs = [(text("  x y"), text("  x\n   y")), (text("x"), text(" x"))]
        for one, other in pairs:
            kind, *rest = alike_paper(rich_book(), one, other)
            wrong = [("alike",), ("unlike",), (kind, *rest, ()), [kind, *rest], ("like", *rest), tuple(rest), (kind,),
                     ("alike", None), ("unlike", Text(), None), ("unlike", None, Text()), ("unlike", "", ""),
                     ("unlike", Text().lines, Text().lines), (kind, rest), ("alike", *rest, *rest), (None, *rest)]
            for value in wrong + odd_values():
                self.assertIs(is_alike_paper(rich_book(), one, other, value), False)

    def test_a_paper_of_the_other_kind(self):
        one, two, three = text("  x y"), text("  x\n   y"), text("  x\n  y")
        self.assertIs(is_alike_paper(rich_book(), one, three, alike_paper(rich_book(), one, two)), False)
        self.assertIs(is_alike_paper(rich_book(), one, two, alike_paper(rich_book(), one, three)), False)
        self.assertIs(is_alike_paper(rich_book(), one, three, ("alike", ())), False)

    def test_texts_around_that_anybody_made(self):
        book, one, other = rich_book(), text("  x"), text("   x")
        for before, after, expected in (("y", "", False), ("y p\n  y", "", True), ("y p", "  z", True),
                                        ("y p", "", False), ("y p\n   y\n  z", "", False), ("r", "r", False),
                                        ("y p\n  y", "r", False), ("y o\n   y", "", True), ("", "", False)):
            value = ("unlike", text(before), text(after))
            found = [naive.signs_read(book, value[1].lines + stretch.lines + value[2].lines)
                     for stretch in (one, other)]
            self.assertEqual(found[0] != found[1], expected, (before, after))
            self.assertIs(is_alike_paper(book, one, other, value), expected)

    def test_a_text_that_just_one_of_them_breaks(self):
        value = ("unlike", text("y p\n  y"), Text())
        self.assertIs(is_alike_paper(rich_book(deep="breaks"), text("  x"), text("   x"), value), True)

    def test_at_most_sixty_lines(self):
        one, other = text("  x"), text("   x\n    y")
        fill = [(0, ("z",))]
        for many, expected in ((56, True), (57, False)):
            for before, after in ((many, 0), (0, many), (many - 5, 5)):
                value = ("unlike", Text(*fill * before) + text("y p\n  y"), Text(*fill * after))
                self.assertIs(is_alike_paper(rich_book(), one, other, value), expected, (before, after))


class TestErrors(Refusing):
    def calls(self):
        return [is_alike, alike_paper, least_parting, lambda *args: is_alike_paper(*args, None)]

    def test_arguments(self):
        good, deep = Text((99, ("x",))), Text((100, ("x",)))
        for call in self.calls():
            call(py_book(), good, good)
            for value in not_of(Book):
                self.assert_refused(InvalidBook, "no", call, value, deep, None)
            for value in not_of(Text) + [deep, Text((0, ("x",)), (199, ("y",)))]:
                self.assert_refused(InvalidText, "no", call, py_book(), value, good)
                self.assert_refused(InvalidText, "no", call, py_book(), good, value)
                self.assert_refused(InvalidText, "no", call, py_book(), value, value)

    def test_columns_99_and_100(self):
        self.assertIs(is_alike(hs_book(), Text((99, ("x",))), Text((99, ("x",)))), True)
        self.assertIs(is_alike(hs_book(), Text((98, ("x",))), Text((99, ("x",)))), False)
        paper = alike_paper(hs_book(), Text((98, ("x",))), Text((99, ("x",))))
        self.assertIs(is_alike_paper(hs_book(), Text((98, ("x",))), Text((99, ("x",))), paper), True)

    def test_too_many_links(self):
        one = Text(*[(99 - at, ("e", "f", "g", "r", "n", "x")) for at in range(20)])
        moved = Text(*[(98 - at, words) for at, (_, words) in enumerate(one)])
        for call in self.calls():
            self.assert_refused(TooMany, 20000, call, wide_book(), one, one)
            self.assert_refused(TooMany, 20000, call, wide_book(), one, moved)
        self.assertIs(is_alike(wide_book(), one.part(0, 10), moved.part(0, 10)), True)
        links = alike_paper(wide_book(), one.part(0, 10), one.part(0, 10))[1]
        self.assertLess(10000, len(links))

    def test_the_most_links_and_one_more(self):
        book = Book({"a": ("level", "filled"), "b": ("deeper", "filled")}, {"e": "a"}, {}, deep="joins", gap="joins")
        one = Text((98, ("x",)), *[(98, ("e",) * 6)] * 17)
        paper = alike_paper(book, one, one)
        self.assertEqual([paper[0], len(paper[1])], ["alike", 20000])
        self.assertIs(is_alike(book, one, one), True)
        self.assertIs(is_alike_paper(book, one, one, paper), True)
        book = Book({"a": ("level", "filled")}, {"e": "a"}, {}, deep="joins", gap="joins")
        one = Text(*[(78, ("e",) * 6)] * 41, (78, ("e",) * 5))
        for call in self.calls():
            self.assert_refused(TooMany, 20000, call, book, one, one)
        # One word less needs one link less for each block that can be told.
        one = Text(*[(78, ("e",) * 6)] * 41, (78, ("e",) * 4))
        self.assertEqual(len(alike_paper(book, one, one)[1]), 20001 - 80)

    def test_texts_behind_that_are_too_long(self):
        # Both are read with the same signs, and a line behind them shows the block that is deeper.
        fill = [(0, ("x",))] * 57
        one, other = (Text(*fill, (0, ("x", "p")), (column, ("y",))) for column in (1, 2))
        paper = alike_paper(rich_book(), one, other)
        self.assertIs(is_alike_paper(rich_book(), one, other, paper), True)
        self.assertEqual(len(paper[1]) + len(paper[2]), 1)
        one, other = Text((0, ("x",))) + one, Text((0, ("x",))) + other
        self.assert_refused(TooMany, 60, alike_paper, rich_book(), one, other)
        self.assertIs(is_alike(rich_book(), one, other), False)

    def test_no_texts_that_are_short_enough(self):
        fill = [(1, ("x",))] * 59
        one, two, three = (Text(*fill, (column, ("x",))) for column in (0, 1, 2))
        # Alone they are read with unlike signs, or only with a line ahead or behind.
        self.assertEqual(alike_paper(hs_book(), one, two), ("unlike", Text(), Text()))
        self.assertIs(is_alike(hs_book(), two, three), False)
        self.assert_refused(TooMany, 60, alike_paper, hs_book(), two, three)
        self.assertIs(is_alike_paper(hs_book(), two, three, ("unlike", Text(), Text())), False)
        paper = alike_paper(hs_book(), two.part(2, 60), three.part(2, 60))
        self.assertIs(is_alike_paper(hs_book(), two.part(2, 60), three.part(2, 60), paper), True)
        # Both are broken in all texts of at most sixty lines.
        fill = [(0, ("e",))] * 30
        one, other = Text(*fill, (0, ("x",))), Text(*fill, (0, ("y",)))
        self.assertEqual([is_alike(rich_book(), one, other), least_parting(rich_book(), one, other)], [False, 31])
        self.assert_refused(TooMany, 60, alike_paper, rich_book(), one, other)
        self.assertIs(is_alike_paper(rich_book(), one, other, ("unlike", Text(), Text())), False)

    def test_long_stretches(self):
        fill = [(at % 7, ("x", "o")) for at in range(56)]
        one, other = Text(*fill, (0, ("x", "p"))), Text(*fill, (0, ("y", "p")))
        book = Book({"o": ("level", "empty"), "p": ("level", "filled")}, {"e": "o"}, {"l": "r"},
                    deep="joins", gap="joins")
        paper = alike_paper(book, one, other)
        self.assertIs(is_alike_paper(book, one, other, paper), True)
        self.assertIs(is_alike(book, one, one), True)

    def test_all_stays(self):
        book, one, other = rich_book(), text("  x y"), text("  x\n   y")
        papers = [alike_paper(book, one, other), alike_paper(book, one, other)]
        self.assertEqual(papers[0], papers[1])
        self.assertEqual([book, one, other], [rich_book(), text("  x y"), text("  x\n   y")])


class TestStatement(unittest.TestCase):
    def test_equal_signs_in_one_text_are_not_enough(self):
        # [0.25]: two stretches with equal signs in one text need not do the same in others.
        one, other = Text((4, ("b",))), Text((5, ("b",)))
        found = [naive.signs_read(hs_book(), loop_text().lines + stretch.lines) for stretch in (one, other)]
        self.assertEqual(found[0], found[1])
        self.assertFalse(is_alike(hs_book(), one, other))

    def test_all_pairs_of_small_lines(self):
        lines = [Text((column, words)) for column in (0, 1, 2) for words in (("x",), ("e",), ("x", "r"), ("o",))]
        for book in kinds_of_books()[::5]:
            for one, other in itertools.combinations(lines, 2):
                state = told_apart_by(book, one, other, (0, 1, 2, 3), 2)
                self.assertEqual(is_alike(book, one, other), state is None, (book.text, str(one), str(other)))


if __name__ == "__main__":
    unittest.main()
