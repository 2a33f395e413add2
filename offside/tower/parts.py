"""Parts of a text, which keep what they do by the blocks that they have asked for."""

from offside.read.walk import ASKS, Walk

MOST_OF_PART = 8


class Passing:
    """What a part does with some blocks at the top of the pile, whatever lies beneath them.

    `lines_told` has the signs of the lines that are read. `steps` tells for each of them, and for what
    is behind the last one, how many blocks have been asked for ahead of it, which blocks are known,
    and the opener that waits. `reason` tells why the next line breaks, or is "".
    """

    def __init__(self, opener, asked, lines_told, steps, reason):
        self.opener = opener
        self.asked = asked
        self.lines_told = lines_told
        self.steps = steps
        self.reason = reason

    def fits(self, pile, opener):
        """Whether the part does this with a pile and a waiting opener."""
        return opener == self.opener and pile[len(pile) - len(self.asked):] == self.asked

    def state_ahead(self, pile, at):
        """The pile ahead of a line, by the pile ahead of the part, and the waiting opener."""
        many, known, opener = self.steps[at]
        return pile[:len(pile) - many] + known, opener


class Part:
    """Some lines one behind the other. What they do is read once for the same blocks."""

    def __init__(self, rules, lines):
        self.rules = rules
        self.rows = lines
        self.kept = []

    def passing(self, pile, opener):
        """What the part does behind a pile, which has the ground as its lowest block."""
        for passing in self.kept:
            if passing.fits(pile, opener):
                return passing
        found = self._read(pile, opener)
        self.kept.append(found)
        return found

    def _read(self, pile, opener):
        """Reads the lines; a block of the pile is taken only where a line asks for it."""
        walk = Walk(self.rules, (), opener)
        left = list(pile)
        told = []
        steps = [(0, (), opener)]
        reason = ""
        for line in self.rows:
            walk.told = []
            reason = walk.read_line(line)
            while reason == ASKS:
                walk.known.append(left.pop())
                reason = walk.go_on(line, walk.place, walk.has_ended)
            if reason:
                break
            told.append(tuple(walk.told))
            steps.append((len(pile) - len(left), tuple(walk.known), walk.opener))
        return Passing(opener, pile[len(left):], tuple(told), steps, reason)


def cut(rules, lines):
    """Parts of these lines, of nearly equal sizes."""
    many = len(lines)
    pieces = (many + MOST_OF_PART - 1) // MOST_OF_PART
    bounds = [many * at // pieces for at in range(pieces + 1)] if pieces else []
    return [Part(rules, lines[bounds[at]:bounds[at + 1]]) for at in range(pieces)]


def exchanged(rules, parts, start, stop, lines):
    """The parts with other lines in the place of some; those ahead of them and behind them stay."""
    ahead = []
    behind = []
    middle = lines
    first = 0
    for part in parts:
        last = first + len(part.rows)
        if last <= start:
            ahead.append(part)
        elif first >= stop:
            behind.append(part)
        else:
            middle = part.rows[:max(start - first, 0)] + middle + part.rows[max(stop - first, 0):]
        first = last
    # Small parts are put together, so that there are never many.
    if ahead and len(ahead[-1].rows) + len(middle) <= MOST_OF_PART:
        middle = ahead.pop().rows + middle
    if behind and len(behind[0].rows) + len(middle) <= MOST_OF_PART:
        middle = middle + behind[0].rows
        behind = behind[1:]
    return ahead + cut(rules, middle) + behind
