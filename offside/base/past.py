"""Changes that have been done and taken back, and blocks behind which nothing has changed.

What keeps a past has a stand in `_now`, which never changes, and its past in `_past`.
"""


def passed(stand, ahead, behind, many):
    """The stand that so many of the changes ahead lead to, and the changes ahead and behind there."""
    left = list(ahead)
    gone = list(behind)
    for _ in range(many):
        word, other = left.pop()
        gone.append((word, stand))
        stand = other
    return stand, tuple(left), tuple(gone)


class Past:
    """The changes that have led to a stand, and those that were taken back. It never changes.

    Both are pairs of the word of a change and the stand on its other side, those next to now last.
    """

    def __init__(self, done, undone):
        self.done = done
        self.undone = undone

    def with_change(self, word, stand):
        """The past behind a further change of a stand; nothing can be done again then."""
        return Past(self.done + ((word, stand),), ())

    def back(self, stand, many):
        """The stand ahead of the last so many changes, and the past there."""
        found, done, undone = passed(stand, self.done, self.undone, many)
        return found, Past(done, undone)

    def again(self, stand, many):
        """The stand behind the next so many changes that were taken back, and the past there."""
        found, undone, done = passed(stand, self.undone, self.done, many)
        return found, Past(done, undone)


class Block:
    """Behind it, what keeps a past is as it was ahead of it."""

    def __init__(self, keeper):
        self.keeper = keeper
        self.now = None
        self.past = None

    def __enter__(self):
        self.now = self.keeper._now
        self.past = self.keeper._past
        return self.keeper

    def __exit__(self, kind, value, trace):
        keeper = self.keeper
        keeper._now = self.now
        keeper._past = self.past
        return False
