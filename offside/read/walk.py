"""How lines are read, rule by rule, from the blocks that are known."""

ASKS = "asks"
# The places of a line at which the top is needed, ahead of the indices of its words.
OPENING = -2
STANDING = -1
# The ground is like a block with the column 0, and a bracket with one less than all columns.
GROUND_BLOCK = (0, "")
BRACKET = -1


def can_stand(column, depth, below):
    """Whether a block with this column and depth of its opener can stand on the column below."""
    return column > below or (column == below and depth == "level")


class Rules:
    """What a book tells, laid out for reading."""

    def __init__(self, book):
        self.starts = book.openers
        self.ends = book.enders
        self.pairs = book.brackets
        self.shuts = {self.pairs[word]: word for word in self.pairs}
        self.joins_deep = book.deep == "joins"
        self.joins_gap = book.gap == "joins"

    def takes_blocks(self, word):
        """Whether the word is an ender or a closer, ahead of which blocks are ended."""
        return word in self.ends or word in self.shuts

    def joins(self, has_ended):
        """Whether a line joins that is deeper than the top, having ended blocks or not."""
        return self.joins_gap if has_ended else self.joins_deep


class Walk:
    """Reads lines from the known blocks, which stand in a list, the lowest first.

    What reads gives "" when it comes to its end, ASKS if it needs the top and no block is known,
    with the place at which it does, or the reason why it breaks.
    """

    def __init__(self, rules, known, opener):
        self.rules = rules
        self.known = list(known)
        self.opener = opener
        self.told = []
        self.head = 0
        self.place = OPENING
        self.has_ended = False
        self.mark = BRACKET

    def read_line(self, line):
        """Reads a line."""
        self.has_ended = False
        if self.rules.takes_blocks(line[1][0]):
            reason = self.leave_empty()
            return reason if reason else self.read_words(line[1], 0)
        if self.opener:
            return self._put_block(line)
        return self._compare(line)

    def go_on(self, line, place, has_ended):
        """Reads the rest of a line from a place at which it has asked for a block."""
        self.has_ended = has_ended
        if place == OPENING:
            return self._put_block(line)
        if place == STANDING:
            return self._compare(line)
        return self.read_words(line[1], place)

    def leave_empty(self):
        """Gives the waiting opener, if there is one, an empty block, if it can have one."""
        if self.opener:
            if self.rules.starts[self.opener][1] == "filled":
                return "filled"
            self.told.extend(["{", "}"])
            self.opener = ""
        return ""

    def put_on(self, block):
        """Puts a block of the waiting opener on the pile."""
        self.known.append(block)
        self.told.append("{")
        self.opener = ""

    def _put_block(self, line):
        """Rule 2 of the head, and what follows it."""
        if not self.known:
            self.place = OPENING
            return ASKS
        column = line[0]
        if can_stand(column, self.rules.starts[self.opener][0], self.known[-1][0]):
            self.put_on((column, self.opener))
            return self.read_words(line[1], 0)
        reason = self.leave_empty()
        return reason if reason else self._compare(line)

    def _compare(self, line):
        """Rule 3 of the head, and what follows it."""
        column = line[0]
        known = self.known
        while known and known[-1][0] > column:
            known.pop()
            self.told.append("}")
            self.has_ended = True
        if not known:
            self.place = STANDING
            return ASKS
        top = known[-1][0]
        if top == column:
            self.told.append(";")
        elif top != BRACKET and not self.rules.joins(self.has_ended):
            return "gap" if self.has_ended else "deep"
        return self.read_words(line[1], 0)

    def read_words(self, words, start):
        """Reads the words of a line from this index on."""
        if start == 0:
            self.head = len(self.told)
        for at in range(start, len(words)):
            word = words[at]
            if self.rules.takes_blocks(word):
                reason = self._end_ahead_of(word)
                if reason:
                    self.place = at
                    return reason
            elif word in self.rules.pairs:
                self.known.append((self.mark, word))
            self.told.append(word)
        if words[-1] in self.rules.starts:
            self.opener = words[-1]
        return ""

    def _end_ahead_of(self, word):
        """Ends the blocks that are ended ahead of an ender or a closer."""
        while self.known:
            opener = self.known[-1][1]
            if opener not in self.rules.starts:
                # A bracket or the ground, of which only the right bracket goes.
                if self.rules.shuts.get(word) == opener:
                    self.known.pop()
                    return ""
                return "closer" if word in self.rules.shuts else "ender"
            self.known.pop()
            self.told.append("}")
            if self.rules.ends.get(word) == opener:
                return ""
        return ASKS

    def read_end(self):
        """Reads the end of a text, with the ground among the known blocks."""
        reason = self.leave_empty()
        if reason:
            return reason
        if [block for block in self.known if block[1] in self.rules.pairs]:
            return "open"
        self.told.extend(["}"] * (len(self.known) - 1))
        return ""


def walk_from(rules, state):
    """The walk that begins in a state, with all blocks known."""
    return Walk(rules, (GROUND_BLOCK,) + state[0], state[1])


def state_of(walk):
    """The state to which a walk has come that began in one."""
    return tuple(walk.known[1:]), walk.opener


def line_from(rules, state, line):
    """The reason why a line breaks or "", its signs, and the state behind it."""
    walk = walk_from(rules, state)
    reason = walk.read_line(line)
    return reason, tuple(walk.told), state_of(walk)


def end_from(rules, state):
    """The reason why the end breaks behind a state or "", and its signs."""
    walk = walk_from(rules, state)
    reason = walk.read_end()
    return reason, tuple(walk.told)


def read_lines(rules, lines, state):
    """The lines of a text that are read from a state: four lists or None.

    The parts of the lines, the lengths of their heads, the states ahead of them and behind the last
    one, and the fault, or None if no line breaks.
    """
    walk = walk_from(rules, state)
    parts = []
    heads = []
    states = [state]
    for line in lines:
        walk.told = []
        reason = walk.read_line(line)
        if reason:
            return parts, heads, states, (len(parts), reason)
        parts.append(tuple(walk.told))
        heads.append(walk.head)
        states.append(state_of(walk))
    return parts, heads, states, None


def read_whole(rules, lines, state):
    """The parts of lines and of the end behind them, and the fault, or None."""
    parts, _, states, fault = read_lines(rules, lines, state)
    if fault is None:
        reason, signs = end_from(rules, states[-1])
        if reason:
            return tuple(parts), (len(parts), reason)
        parts.append(signs)
    return tuple(parts), fault
