"""The blocks that the lines of a reading have opened."""


class Opened:
    """The blocks that lines open, found by following the signs of the lines again.

    `found` has a list [opener or bracket, line, first, last] for each block, and `homes` has, for
    each line, the place in it of the topmost block behind the head of the line, or None.
    """

    def __init__(self, rules, many_below):
        self.rules = rules
        self.found = []
        self.homes = []
        # For each block on the pile its place in `found`, None for those of the state ahead.
        self.pile = [None] * many_below

    def put_on(self, word, line, first):
        """A block comes on the pile."""
        self.pile.append(len(self.found))
        self.found.append([word, line, first, None])

    def take_off(self, last):
        """The topmost block goes; its last word stands in this line."""
        place = self.pile.pop()
        if place is not None:
            self.found[place][3] = last

    def follow_line(self, index, signs, head, opener):
        """Follows a line with a head of this length, ahead of which an opener waits, or none."""
        rest = list(signs[:head])
        if rest == ["{"]:
            self.put_on(opener, index - 1, index)
            rest = []
        elif rest[:1] == ["{"]:
            self.add_empty(opener, index - 1)
            rest = rest[2:]
        for _ in range(rest.count("}")):
            self.take_off(index - 1)
        self.homes.append(self.pile[-1] if self.pile else None)
        self._follow_words(index, signs[head:])

    def _follow_words(self, index, signs):
        """Follows the words of a line, and the signs between them."""
        last = index - 1
        for sign in signs:
            if sign == "}" or sign in self.rules.shuts:
                self.take_off(last)
            if sign in self.rules.pairs:
                self.put_on(sign, index, index)
            if sign != "}":
                last = index

    def add_empty(self, opener, line):
        """Adds the empty block of an opener that waited."""
        self.found.append([opener, line, -1, -1])

    def all_found(self, last):
        """All blocks; those that have not been ended have their last word in this line."""
        return tuple([(word, line, first, last if end is None else end) for word, line, first, end in self.found])
