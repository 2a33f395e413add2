"""The parts of a text put together: its signs, its states, and where it breaks."""

from offside.base.texts import Text
from offside.read.walk import GROUND_BLOCK, end_from
from offside.tower.parts import exchanged


class Stack:
    """The parts of a text, each of them read behind the others. It never changes.

    Each line has a tag, which it keeps as long as it stays: `given` tags have been given.
    """

    def __init__(self, rules, parts, tags, given):
        self.rules = rules
        self.tiers = parts
        self.tags = tags
        self.given = given
        lines = [line for part in parts for line in part.rows]
        self.whole = Text(*lines)
        self.told = []
        # The pile ahead of each part that is read, its first line, and what it does there.
        self.layers = []
        self.breaks_at = self._put_together()

    def _put_together(self):
        """Reads the parts one behind the other; the line where the text breaks, or None."""
        pile = (GROUND_BLOCK,)
        opener = ""
        for part in self.tiers:
            passing = part.passing(pile, opener)
            self.layers.append((len(self.told), pile, passing))
            self.told.extend(passing.lines_told)
            if passing.reason:
                return len(self.told)
            pile, opener = passing.state_ahead(pile, len(passing.lines_told))
        reason, _ = end_from(self.rules, (pile[1:], opener))
        return len(self.told) if reason else None

    def signs_at(self, index):
        """The signs of a line, or None if it or a line ahead of it is broken."""
        return self.told[index] if index < len(self.told) else None

    def state_at(self, index):
        """The state ahead of a line, or behind all lines; None where lines are broken."""
        if index >= len(self.told) and len(self.told) < len(self.tags):
            return None
        state = ((), "")
        for first, ahead, passing in self.layers:
            if first <= index <= first + len(passing.lines_told):
                pile, opener = passing.state_ahead(ahead, index - first)
                state = (pile[1:], opener)
        return state

    def with_lines(self, start, stop, lines):
        """The stack with other lines in the place of some; as many lines keep their tags."""
        tags = self.tags[start:stop]
        given = self.given
        if len(lines) != stop - start:
            tags = tuple(range(given, given + len(lines)))
            given = given + len(lines)
        parts = exchanged(self.rules, self.tiers, start, stop, lines)
        return Stack(self.rules, parts, self.tags[:start] + tags + self.tags[stop:], given)


def news_between(old, new):
    """The indices of the lines of a stack that are new, or have other signs than in the old one."""
    before = {tag: old.signs_at(at) for at, tag in enumerate(old.tags)}
    return tuple([at for at, tag in enumerate(new.tags) if tag not in before or before[tag] != new.signs_at(at)])
