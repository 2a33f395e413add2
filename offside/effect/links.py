"""Two stretches that are read from one state, whose blocks are told when one of them asks."""

from offside.effect.stretch import BROKEN, DONE, begin, go_on
from offside.errors import TooMany
from offside.read.apart import class_told
from offside.read.states import stands_on
from offside.read.walk import BRACKET, GROUND_BLOCK

MAX_LINKS = 20000
SETTLED = "settled"
LINKED = "linked"
UNLIKE = "unlike"


def ahead_of(one, other):
    """Those of the signs that one has told and the other one has not: a pair, or () if they differ."""
    shared = min(len(one), len(other))
    if one[:shared] != other[:shared]:
        return ()
    return (one[shared:], other[shared:])


def verdict(rules, one, other, ahead):
    """Whether two outcomes are a link, or unlike, or settled: both broken, or done and alike.

    What is ahead is () where one of them is broken, too.
    """
    if one[0] == BROKEN and other[0] == BROKEN:
        return SETTLED
    if one[0] != DONE and other[0] != DONE:
        return LINKED
    if ahead == ():
        return UNLIKE
    if one[0] == DONE and other[0] == DONE:
        # The same pile lies beneath the known blocks, and equal signs end with the same word.
        are_alike = ahead == ((), ()) and class_told(rules, one[1:]) == class_told(rules, other[1:])
        return SETTLED if are_alike else UNLIKE
    more = ahead[1] if one[0] == DONE else ahead[0]
    return UNLIKE if more else LINKED


def told_blocks(rules, deepest):
    """The blocks that are told, ascending; the column after the deepest one stands for all greater."""
    blocks = [(BRACKET, word) for word in rules.pairs] + [GROUND_BLOCK]
    for word in rules.starts:
        # On the ground no deeper block has its column, but on a bracket one can have it.
        first = 1 if rules.starts[word][0] == "deeper" and not rules.pairs else 0
        blocks.extend([(column, word) for column in range(first, deepest + 2)])
    return sorted(blocks)


class Side:
    """One of the two stretches, which keeps what it has done behind each pause."""

    def __init__(self, rules, lines):
        self.rules = rules
        self.rows = lines
        self.kept = {}

    def behind(self, outcome, block):
        """The signs and the outcome behind an outcome with this block told."""
        if outcome[0] == DONE:
            return (), (DONE, (block,) + outcome[1], outcome[2])
        if outcome[0] == BROKEN:
            return (), outcome
        key = (outcome[1], block)
        if key not in self.kept:
            self.kept[key] = go_on(self.rules, self.rows, outcome[1], block)
        return self.kept[key]


class Links:
    """The links to which the first ones lead, found in the order of the blocks that are told.

    `unlike` tells where something unlike has been seen with the fewest blocks told: pairs of the
    opener that waits at the beginning, and the tuple of the blocks told, the top first. `least_told` is
    the number of these blocks, or None.
    """

    def __init__(self, rules, one, other):
        self.rules = rules
        self.one = Side(rules, one)
        self.other = Side(rules, other)
        self.deepest = max([line[0] for line in one + other], default=0)
        self.tellable = told_blocks(rules, self.deepest)
        self.unlike = []
        self.least_told = None
        # Links, each with the link ahead of it, or with the waiting opener at the beginning.
        self.found = {}
        # How many blocks have been told behind outcomes, whatever block was told last.
        self.tried = {}
        self.counts = {}

    def explore(self):
        """Finds all links, or what is unlike; raises TooMany if neither shows by so many links."""
        fresh = self._first_links()
        told = 0
        while fresh and not self.unlike:
            if len(self.found) > MAX_LINKS:
                raise TooMany(MAX_LINKS)
            told += 1
            fresh = self._links_behind_all(fresh)
        if self.unlike:
            self.least_told = told

    def _first_links(self):
        """The links of the beginnings."""
        fresh = []
        for opener in [""] + list(self.rules.starts):
            signs, one = begin(self.rules, self.one.rows, opener)
            other_signs, other = begin(self.rules, self.other.rows, opener)
            fresh.extend(self._judged(one, other, ahead_of(signs, other_signs), (), opener))
        return fresh

    def _links_behind_all(self, links):
        """The new links behind some links."""
        fresh = []
        for link in links:
            fresh.extend(self._links_behind(link))
        return fresh

    def _links_behind(self, link):
        """The new links behind a link."""
        one, other, ahead, last = link
        key = (one, other, ahead)
        first = self.tried.get(key, 0)
        many = self._count_beneath(last)
        self.tried[key] = max(first, many)
        fresh = []
        for block in self.tellable[first:many]:
            signs, new_one = self.one.behind(one, block)
            other_signs, new_other = self.other.behind(other, block)
            new_ahead = ahead_of(ahead[0] + signs, ahead[1] + other_signs) if ahead else ()
            fresh.extend(self._judged(new_one, new_other, new_ahead, block, link))
        return fresh

    def _judged(self, one, other, ahead, last, came):
        """The link of these outcomes in a list, if there is one that is new."""
        if one[0] == BROKEN or other[0] == BROKEN:
            ahead = ()
        found = verdict(self.rules, one, other, ahead)
        if found == UNLIKE:
            self.unlike.append((came, last))
        link = (one, other, ahead, last)
        # One link beyond the bound is enough to know that there are too many.
        if found != LINKED or link in self.found or len(self.found) > MAX_LINKS:
            return []
        self.found[link] = came
        return [link]

    def _count_beneath(self, last):
        """How many of the blocks, from the first one on, can stand beneath the last one told."""
        if last not in self.counts:
            self.counts[last] = len([block for block in self.tellable if self._stands_on(last, block)])
        return self.counts[last]

    def _stands_on(self, last, block):
        """Whether the last one told can stand on this block in a regular pile."""
        if last == GROUND_BLOCK:
            return False
        return last == () or last[0] > self.deepest or stands_on(self.rules, last, block)

    def ascending(self):
        """The ascending tuple of the links found."""
        return tuple(sorted(self.found))

    def path_to(self, place):
        """The opener that waits at the beginning, and the blocks told, of one that is unlike."""
        came, last = place
        blocks = []
        while not isinstance(came, str):
            blocks.append(last)
            last = came[3]
            came = self.found[came]
        return came, tuple(reversed(list(blocks)))
