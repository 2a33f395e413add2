"""Books: which words open, end and close blocks, and what columns may do."""

from offside.base.words import is_word
from offside.errors import InvalidBook, InvalidOperation, InvalidWord, ParseError, UnknownWord

MAX_OPENERS = 4
MAX_ENDERS = 3
MAX_BRACKETS = 2
DEPTHS = ("deeper", "level")
NEEDS = ("filled", "empty")
JOINTS = ("joins", "breaks")


def entries_given(table):
    """The table that was passed, or an empty one for None."""
    return {} if table is None else table


def in_order(table):
    """A new dict with the same entries, its keys ascending."""
    return {word: table[word] for word in sorted(table)}


def is_table(value, most):
    """Whether the value is a dict from words with at most so many of them."""
    if not isinstance(value, dict) or len(value) > most:
        return False
    return all([is_word(word) for word in value])


def is_opening(value):
    """Whether the value is a pair of a depth and a need."""
    if not isinstance(value, tuple) or len(value) != 2:
        return False
    return value[0] in DEPTHS and value[1] in NEEDS


def are_openers(value):
    """Whether the value is a dict from words to pairs of a depth and a need."""
    return is_table(value, MAX_OPENERS) and all([is_opening(value[word]) for word in value])


def are_enders(value, openers):
    """Whether the value is a dict from words to some of these openers."""
    if not is_table(value, MAX_ENDERS):
        return False
    # What is no word may be no key either, so it is not looked up.
    return all([is_word(value[word]) and value[word] in openers for word in value])


def are_brackets(value):
    """Whether the value is a dict from words to words."""
    return is_table(value, MAX_BRACKETS) and all([is_word(value[word]) for word in value])


def are_tables(openers, enders, brackets):
    """Whether these are the dicts of a book, with all their words different."""
    if not are_openers(openers) or not are_enders(enders, openers) or not are_brackets(brackets):
        return False
    words = list(openers) + list(enders) + list(brackets) + list(brackets.values())
    return len(set(words)) == len(words)


def all_roles(openers, enders, brackets):
    """A dict from each word of a book to its role and what is told for it."""
    roles = {word: ("opener", openers[word]) for word in openers}
    for word in enders:
        roles[word] = ("ender", enders[word])
    for word in brackets:
        roles[word] = ("bracket", brackets[word])
        roles[brackets[word]] = ("closer", word)
    return roles


def lines_of_text(text):
    """The lines of the text of a book, of which there are two at least."""
    if not isinstance(text, str):
        raise ParseError(None)
    lines = text.split("\n")
    if len(lines) < 2:
        raise ParseError(None)
    return lines


def read_joint(lines, index, rule):
    """The word that the line with this index tells for the rule."""
    for joint in JOINTS:
        if lines[index] == f"{rule} {joint}":
            return joint
    raise ParseError(index)


def read_entry(line):
    """The sort, the word and what is told for it, or None if it is no such line.

    The sorts are numbers in the order in which they stand in the text of a book.
    """
    items = line.split(" ")
    if len(items) != 3 or not is_word(items[0]):
        return None
    word, middle, last = items
    if middle in DEPTHS and last in NEEDS:
        return 0, word, (middle, last)
    if middle == "ends" and is_word(last):
        return 1, word, last
    if middle == "closed" and is_word(last):
        return 2, word, last
    return None


def read_tables(lines):
    """The dicts of openers, enders and brackets that the lines from the third on tell."""
    tables = [{}, {}, {}]
    ahead = (0, "")
    for index in range(2, len(lines)):
        entry = read_entry(lines[index])
        if entry is None or entry[:2] <= ahead:
            raise ParseError(index)
        sort, word, told = entry
        tables[sort][word] = told
        ahead = (sort, word)
    return tables


def is_renaming(value, words):
    """Whether the value is a dict from just these words to different words."""
    if not isinstance(value, dict) or len(value) != len(words):
        return False
    if not all([word in value and is_word(value[word]) for word in words]):
        return False
    return len(set(list(value.values()))) == len(words)


class Book:
    """The rules by which texts are read. A book never changes."""

    def __init__(self, openers=None, enders=None, brackets=None, *, deep="breaks", gap="breaks"):
        openers = entries_given(openers)
        enders = entries_given(enders)
        brackets = entries_given(brackets)
        if not are_tables(openers, enders, brackets):
            raise InvalidBook("these are not the words of a book")
        if deep not in JOINTS or gap not in JOINTS:
            raise InvalidBook("deep and gap are joins or breaks")
        self._openers = in_order(openers)
        self._enders = in_order(enders)
        self._brackets = in_order(brackets)
        self._deep = deep
        self._gap = gap
        self._roles = all_roles(openers, enders, brackets)
        self._words = tuple(sorted(self._roles))

    @classmethod
    def read(cls, text):
        """The book with this text."""
        lines = lines_of_text(text)
        deep = read_joint(lines, 0, "deep")
        gap = read_joint(lines, 1, "gap")
        openers, enders, brackets = read_tables(lines)
        return cls(openers, enders, brackets, deep=deep, gap=gap)

    @property
    def openers(self):
        """A dict from the openers to their pairs of depth and need."""
        return dict(self._openers)

    @property
    def enders(self):
        """A dict from the enders to the openers whose blocks they end."""
        return dict(self._enders)

    @property
    def brackets(self):
        """A dict from the brackets to their closers."""
        return dict(self._brackets)

    @property
    def deep(self):
        """What a line does that is deeper than its block."""
        return self._deep

    @property
    def gap(self):
        """What a line does that has ended blocks and stands at the column of none."""
        return self._gap

    @property
    def words(self):
        """All words with a role, ascending."""
        return self._words

    @property
    def text(self):
        """The text of the book, by which it can be read again."""
        lines = [f"deep {self._deep}", f"gap {self._gap}"]
        for word in self._openers:
            depth, need = self._openers[word]
            lines.append(f"{word} {depth} {need}")
        for word in self._enders:
            lines.append(f"{word} ends {self._enders[word]}")
        for word in self._brackets:
            lines.append(f"{word} closed {self._brackets[word]}")
        return "\n".join(lines)

    def role(self, word):
        """The role of any word."""
        if not is_word(word):
            raise InvalidWord("only words have roles")
        if word not in self._roles:
            return "plain"
        return self._roles[word][0]

    def ended_by(self, word):
        """The ascending tuple of the enders of an opener."""
        if not is_word(word):
            raise InvalidWord("only words are openers")
        if word not in self._openers:
            raise UnknownWord(word)
        return tuple([ender for ender in self._enders if self._enders[ender] == word])

    def with_opener(self, word, depth, need):
        """The book with this word as an opener, and in no other role."""
        openers, enders, brackets = self._tables_beside(word)
        openers[word] = (depth, need)
        return Book(openers, enders, brackets, deep=self._deep, gap=self._gap)

    def with_ender(self, word, opener):
        """The book with this word as an ender, and in no other role."""
        openers, enders, brackets = self._tables_beside(word)
        enders[word] = opener
        return Book(openers, enders, brackets, deep=self._deep, gap=self._gap)

    def with_bracket(self, word, closer):
        """The book with this word as a bracket, and in no other role."""
        openers, enders, brackets = self._tables_beside(word)
        brackets[word] = closer
        return Book(openers, enders, brackets, deep=self._deep, gap=self._gap)

    def without(self, word):
        """The book without this word and the words that cannot be without it."""
        if word not in self:
            raise UnknownWord(word)
        return self._without_all((word,))

    def joining(self, *, deep=None, gap=None):
        """The book with other words for deep and gap, the old ones for None."""
        new_deep = self._deep if deep is None else deep
        new_gap = self._gap if gap is None else gap
        return Book(self._openers, self._enders, self._brackets, deep=new_deep, gap=new_gap)

    def renamed(self, names):
        """The book with other words, which a dict tells for just its words."""
        if not is_renaming(names, self._words):
            raise InvalidOperation("names are a dict from the words of the book to different words")
        openers = {names[word]: self._openers[word] for word in self._openers}
        enders = {names[word]: names[self._enders[word]] for word in self._enders}
        brackets = {names[word]: names[self._brackets[word]] for word in self._brackets}
        return Book(openers, enders, brackets, deep=self._deep, gap=self._gap)

    def _tables_beside(self, word):
        """New dicts of the openers, enders and brackets, in which this word is no key."""
        # The word becomes a key of one of them, which not every value can be.
        if not is_word(word):
            raise InvalidBook("only words have roles")
        openers = {key: self._openers[key] for key in self._openers if key != word}
        enders = {key: self._enders[key] for key in self._enders if key != word}
        brackets = {key: self._brackets[key] for key in self._brackets if key != word}
        return openers, enders, brackets

    def _without_all(self, lost):
        """The book without these words and the words that cannot be without them."""
        openers = {word: self._openers[word] for word in self._openers if word not in lost}
        enders = {word: self._enders[word] for word in self._enders
                  if word not in lost and self._enders[word] not in lost}
        brackets = {word: self._brackets[word] for word in self._brackets
                    if word not in lost and self._brackets[word] not in lost}
        return Book(openers, enders, brackets, deep=self._deep, gap=self._gap)

    def _fits(self, other):
        """Whether all that is told in both books is told alike."""
        if self._deep != other._deep or self._gap != other._gap:
            return False
        shared = [word for word in self._words if word in other._roles]
        return all([self._roles[word] == other._roles[word] for word in shared])

    def __or__(self, other):
        if not isinstance(other, Book) or not self._fits(other):
            raise InvalidOperation("only books that tell nothing in unlike ways are put together")
        openers = {**self._openers, **other._openers}
        enders = {**self._enders, **other._enders}
        brackets = {**self._brackets, **other._brackets}
        return Book(openers, enders, brackets, deep=self._deep, gap=self._gap)

    def __ror__(self, other):
        # Python asks the right operand only where the left one is no book.
        raise InvalidOperation("only books are put together with books")

    def __sub__(self, other):
        if not isinstance(other, Book):
            raise InvalidOperation("only a book is taken away from a book")
        return self._without_all(other._words)

    def __rsub__(self, other):
        # Python asks the right operand only where the left one is no book.
        raise InvalidOperation("a book is taken away from books only")

    def __contains__(self, x):
        return isinstance(x, str) and x in self._roles

    def __getitem__(self, at):
        if at not in self:
            raise UnknownWord(at)
        return self._roles[at][1]

    def __len__(self):
        return len(self._words)

    def __iter__(self):
        return iter(self._words)

    def __eq__(self, other):
        return (isinstance(other, Book) and self._openers == other._openers
                and self._enders == other._enders and self._brackets == other._brackets
                and self._deep == other._deep and self._gap == other._gap)

    def __str__(self):
        counts = f"{len(self._openers)} openers, {len(self._enders)} enders, {len(self._brackets)} brackets"
        return f"{counts}, deep {self._deep}, gap {self._gap}"
