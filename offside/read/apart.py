"""Lines to a state, lines that tell two states apart, and lines that bring a text to its end."""

from offside.base.words import MAX_COLUMN, MAX_WORDS
from offside.read.walk import BRACKET, end_from, line_from

# One more than all words that can have a role, so that one of them is plain in each book.
PLAIN_WORDS = ("x", "xa", "xb", "xc", "xd", "xe", "xf", "xg", "xh", "xi", "xj", "xk")


def plain_word(rules):
    """A word that is plain in the book."""
    roles = list(rules.starts) + list(rules.ends) + list(rules.pairs) + list(rules.shuts)
    return [word for word in PLAIN_WORDS if word not in roles][0]


def class_told(rules, state):
    """The class of a regular state."""
    pile, waiting = state
    ended = list(rules.ends.values()) + list(rules.pairs)
    blocks = tuple([(column, word if word in ended else "") for column, word in pile])
    if not waiting:
        return blocks, ()
    depth, need = rules.starts[waiting]
    if pile and pile[-1][0] == BRACKET:
        depth = ""
    return blocks, (depth, need, waiting if waiting in ended else "")


def lines_to(rules, state):
    """Lines behind which a regular state comes, with at most one more than it has blocks."""
    pile, waiting = state
    if not pile and not waiting:
        return []
    lines = []
    column = 0
    words = []
    for block in pile:
        if len(words) == MAX_WORDS:
            # Only brackets can be so many, so the top is one, and the column does not matter.
            lines.append((column, tuple(words)))
            words = []
        words.append(block[1])
        if block[0] != BRACKET:
            lines.append((column, tuple(words)))
            column = block[0]
            words = []
    if waiting and len(words) == MAX_WORDS:
        lines.append((column, tuple(words)))
        words = []
    if waiting:
        words.append(waiting)
    lines.append((column, tuple(words) if words else (plain_word(rules),)))
    return lines


def lines_behind(rules, state):
    """The fewest lines behind which the end does not break a text that has come to the state."""
    pile, waiting = state
    words = [rules.pairs[word] for _, word in reversed(list(pile)) if word in rules.pairs]
    column = 0
    if waiting and rules.starts[waiting][1] == "filled":
        column = 1 + max([block[0] for block in pile], default=0)
        words = [plain_word(rules)] + words
    return [(column, tuple(words[at:at + MAX_WORDS])) for at in range(0, len(words), MAX_WORDS)]


def probes(rules, one, other):
    """Lines that can tell two states apart, or come nearer to where they differ."""
    plain = plain_word(rules)
    columns = [column for column, _ in one[0] + other[0] if column != BRACKET]
    lines = [(0, (word,)) for word in list(rules.ends) + list(rules.shuts)]
    # All blocks of states that are passed are less deep than the last column.
    return lines + [(column, (plain,)) for column in sorted(set([0, MAX_COLUMN] + columns))]


def distance(state):
    """How far a state is from one with nothing in it: what is waiting counts most."""
    return (1 if state[1] else 0, len(state[0]))


def line_apart(rules, one, other):
    """Whether a line tells two states apart, the line, and the states behind it.

    If no line does, it is one behind which they still differ, and are as near to nothing as can be.
    """
    best = None
    for line in probes(rules, one, other):
        reason, signs, state = line_from(rules, one, line)
        other_reason, other_signs, other_state = line_from(rules, other, line)
        if reason and other_reason:
            continue
        if reason or other_reason or signs != other_signs:
            return True, line, None if reason else state, None if other_reason else other_state
        if distance(state) < distance(one) and (best is None or distance(state) < distance(best[2])):
            if class_told(rules, state) != class_told(rules, other_state):
                best = (False, line, state, other_state)
    return best


def does_end_tell(rules, one, other):
    """Whether a text can end behind one of two states at least, and not alike behind both."""
    reason, signs = end_from(rules, one)
    other_reason, other_signs = end_from(rules, other)
    if reason and other_reason:
        return False
    return bool(reason) != bool(other_reason) or signs != other_signs


def lines_apart(rules, one, other):
    """Lines that two states of unlike classes read with other signs, or that just one of them reads.

    Behind them the text ends without a fault for one of the states at least.
    """
    lines = []
    while not does_end_tell(rules, one, other):
        tells, line, one, other = line_apart(rules, one, other)
        lines.append(line)
        if tells:
            return lines + lines_behind(rules, other if one is None else one)
    return lines
