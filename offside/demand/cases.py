"""The cases of the rules that give lines wanted signs, and what they demand of the columns."""

from offside.base.words import GROUND, MAX_COLUMN, SIGNS
from offside.read.walk import Rules, Walk


def head_of(signs):
    """The signs ahead of the first word."""
    at = 0
    while at < len(signs) and signs[at] in SIGNS:
        at += 1
    return signs[:at]


class Cases:
    """Follows wanted signs line by line, with a pile whose columns are told by lines.

    The blocks of the walk are pairs of the line that has opened them and their opener or bracket;
    the ground is beneath them.
    """

    def __init__(self, book):
        self.rules = Rules(book)
        self.walk = Walk(self.rules, ((GROUND, ""),), "")

    def pile_told(self):
        """The pile, told by lines."""
        return tuple(self.walk.known[1:])

    def follow_line(self, index, words, signs):
        """The demands of a line with these signs, or None if they are those of no case."""
        walk = self.walk
        walk.mark = index
        walk.told = []
        found = [(index, GROUND, 0), (GROUND, index, -MAX_COLUMN)]
        if self.rules.takes_blocks(words[0]):
            # The column has no effect then.
            reason = walk.leave_empty()
        else:
            head = head_of(signs)
            more = self._head_demands(index, head)
            reason = "no case" if more is None else ""
            walk.told = list(head)
            found.extend(more or [])
        if reason or walk.read_words(words, 0) or tuple(walk.told) != signs:
            return None
        return found

    def does_end(self, signs):
        """Whether these can be the signs of the end."""
        self.walk.told = []
        return not self.walk.read_end() and tuple(self.walk.told) == signs

    def _is_on_bracket(self):
        """Whether the top is a bracket."""
        return self.walk.known[-1][1] in self.rules.pairs

    def _head_demands(self, index, head):
        """The demands of a head that is compared with the top, or None if it is no case."""
        opener = self.walk.opener
        if not opener:
            return self._column_demands(index, head)
        top = self.walk.known[-1][0]
        deeper = self.rules.starts[opener][0] == "deeper"
        if head == ("{",):
            found = [] if self._is_on_bracket() else [(index, top, 1 if deeper else 0)]
            self.walk.put_on((index, opener))
            return found
        # On a bracket each line opens the block.
        if head[:2] != ("{", "}") or self._is_on_bracket() or self.walk.leave_empty():
            return None
        more = self._column_demands(index, head[2:])
        return None if more is None else [(top, index, 0 if deeper else 1)] + more

    def _column_demands(self, index, head):
        """The demands of the signs by which a line is compared with the blocks, or None."""
        many = head.count("}")
        lowest = None
        for _ in range(many):
            if self.walk.known[-1][1] not in self.rules.starts:
                return None
            lowest = self.walk.known.pop()[0]
        found = [] if lowest is None else [(lowest, index, 1)]
        top = self.walk.known[-1][0]
        rest = head[many:]
        if self._is_on_bracket():
            return None if rest else found
        if rest == (";",):
            return found + [(index, top, 0), (top, index, 0)]
        if rest or not self.rules.joins(many > 0):
            return None
        return found + [(index, top, 1)]
