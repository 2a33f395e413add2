"""Texts ahead of two stretches and behind them that tell them apart."""

from offside.base.texts import MAX_LINES
from offside.read.apart import class_told, lines_apart, lines_behind, lines_to
from offside.read.states import stands_on
from offside.read.walk import BRACKET, GROUND_BLOCK, read_lines, read_whole


def flattened(parts):
    """All signs of the parts in one tuple."""
    return tuple([sign for part in parts for sign in part])


def signs_read(rules, lines):
    """All signs of a text, or None if it is broken."""
    parts, fault = read_whole(rules, lines, ((), ""))
    return None if fault else flattened(parts)


def are_unlike_between(rules, one, other, before, after):
    """Whether lines ahead and behind tell two stretches apart."""
    return signs_read(rules, before + one + after) != signs_read(rules, before + other + after)


def pile_told(rules, deepest, blocks):
    """A regular pile with these blocks at its top, which were told from the top on."""
    pile = []
    # The column behind the deepest one was told for all greater ones, which grow from below.
    column = deepest
    for block in reversed(list(blocks)):
        if block[0] > deepest:
            column += 1
            pile.append((column, block[1]))
        elif block != GROUND_BLOCK:
            pile.append(block)
    if pile and not stands_on(rules, pile[0], GROUND_BLOCK):
        return [(BRACKET, word) for word in rules.pairs][:1] + pile
    return pile


def lines_after(rules, one, other, state):
    """Lines behind two stretches that tell them apart if they are read from a state, or None."""
    parts, _, states, fault = read_lines(rules, one, state)
    other_parts, _, other_states, other_fault = read_lines(rules, other, state)
    if fault and other_fault:
        return None
    if not fault and not other_fault and flattened(parts) == flattened(other_parts):
        if class_told(rules, states[-1]) == class_told(rules, other_states[-1]):
            return None
        return lines_apart(rules, states[-1], other_states[-1])
    # It is enough that one of the two texts is read to its end.
    ends = [found[-1] for found, broken in ((states, fault), (other_states, other_fault)) if not broken]
    return min([lines_behind(rules, state) for state in ends], key=len)


def texts_around(rules, one, other, links):
    """The lines of two texts that tell two stretches apart, or None if none are found that short."""
    room = MAX_LINES - max(len(one), len(other))
    piles = [((), opener) for opener in [""] + list(rules.starts)]
    for place in links.unlike:
        opener, blocks = links.path_to(place)
        piles.append((tuple(pile_told(rules, links.deepest, blocks)), opener))
    for state in piles:
        before = lines_to(rules, state)
        if len(before) <= room:
            after = lines_after(rules, one, other, state)
            if after is not None and len(before) + len(after) <= room:
                return before, after
    return None
