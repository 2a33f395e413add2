"""The pauses to which some states lead."""

from offside.base.words import MAX_COLUMN
from offside.effect.stretch import outcome_at
from offside.read.walk import ASKS, BRACKET, GROUND_BLOCK, OPENING, STANDING, Walk


class Reach:
    """Finds the pauses of a stretch, those first that the fewest blocks lead to.

    Only a few blocks are tried: of the columns that no line tells apart one is enough.
    """

    def __init__(self, rules, lines):
        self.rules = rules
        self.rows = lines
        self.seen = {}
        # What is known ahead of a line tells all that follows, so it is followed once.
        self.passed = {}
        self.others = [GROUND_BLOCK] + [(BRACKET, word) for word in rules.pairs]
        columns = [line[0] for line in lines]
        self.levels = sorted(set([0] + columns + [column + 1 for column in columns]))

    def pauses_within(self, most):
        """The ascending tuple of the pauses that at most so many blocks lead to."""
        fresh = []
        for opener in [""] + list(self.rules.starts):
            fresh.extend(self._follow(Walk(self.rules, (), opener), 0))
        for _ in range(most):
            fresh = self._behind_all(fresh)
        return tuple(sorted(self.seen))

    def _behind_all(self, pauses):
        """The new pauses behind some pauses."""
        fresh = []
        for pause in pauses:
            for block in self._blocks_for(pause):
                fresh.extend(self._behind(pause, block))
        return fresh

    def _blocks_for(self, pause):
        """Blocks that stand for all with which the reading can go on from a pause."""
        if pause[1] not in (OPENING, STANDING):
            # A word ends the block or breaks, whatever its column is.
            return self.others + [(0, word) for word in self.rules.starts]
        columns = [column for column in self.levels if column < MAX_COLUMN]
        return self.others + [(column, word) for column in columns for word in self.rules.starts]

    def _behind(self, pause, block):
        """The new pauses behind a pause with this block as the top."""
        line, place, has_ended, opener = pause
        walk = Walk(self.rules, (block,), opener)
        reason = walk.go_on(self.rows[line], place, has_ended)
        if reason:
            return self._stop(walk, line, reason)
        return self._follow(walk, line + 1)

    def _follow(self, walk, first):
        """The new pauses on a walk through the lines from this index on."""
        for index in range(first, len(self.rows)):
            key = (index, tuple(walk.known), walk.opener)
            if key in self.passed:
                return []
            self.passed[key] = True
            reason = walk.read_line(self.rows[index])
            if reason:
                return self._stop(walk, index, reason)
        return []

    def _stop(self, walk, line, reason):
        """The pause where a walk stops within a line, if it is new."""
        if reason != ASKS:
            return []
        pause = outcome_at(walk, line, reason)[1]
        if pause in self.seen:
            return []
        self.seen[pause] = True
        return [pause]
