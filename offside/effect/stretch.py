"""Stretches of lines, read from a pile that is told block by block."""

from offside.read.walk import ASKS, GROUND_BLOCK, STANDING, Walk

DONE = "done"
BROKEN = "broken"


def outcome_at(walk, line, reason):
    """The outcome where a walk stops within a line, by what reading the line has given."""
    if reason != ASKS:
        return (BROKEN, line, reason)
    # Only where the line is compared with the top does it matter whether it has ended a block.
    has_ended = walk.has_ended and walk.place == STANDING
    return (ASKS, (line, walk.place, has_ended, walk.opener))


def follow(walk, lines, first):
    """The signs and the outcome of a walk through the lines from this index on."""
    for index in range(first, len(lines)):
        reason = walk.read_line(lines[index])
        if reason:
            return tuple(walk.told), outcome_at(walk, index, reason)
    return tuple(walk.told), (DONE, tuple(walk.known), walk.opener)


def begin(rules, lines, opener):
    """The signs and the outcome from the beginning, where this opener waits, or none."""
    return follow(Walk(rules, (), opener), lines, 0)


def go_on(rules, lines, pause, block):
    """The signs and the outcome from a pause with this block as the top."""
    line, place, has_ended, opener = pause
    walk = Walk(rules, (block,), opener)
    reason = walk.go_on(lines[line], place, has_ended)
    if reason:
        return tuple(walk.told), outcome_at(walk, line, reason)
    return follow(walk, lines, line + 1)


def pass_through(rules, lines, state):
    """The signs and the last outcome from a state, the blocks not asked for, and how many are.

    The ground is the first one of the blocks, and is counted like them.
    """
    left = [GROUND_BLOCK] + list(state[0])
    told, outcome = begin(rules, lines, state[1])
    asked = 0
    while outcome[0] == ASKS:
        more, outcome = go_on(rules, lines, outcome[1], left.pop())
        told = told + more
        asked += 1
    return told, outcome, tuple(left), asked
