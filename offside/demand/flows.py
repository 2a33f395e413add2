"""A flow of the greatest worth and columns with the least price, which are found together."""

from heapq import heappop, heappush

from offside.base.words import GROUND


def lack_of(columns, demand):
    """What a demand lacks with these columns; nothing or less if they meet it."""
    upper, lower, least = demand
    above = 0 if upper == GROUND else columns[upper]
    below = 0 if lower == GROUND else columns[lower]
    return least - above + below


class Network:
    """The lines as places, and the ground as two: the start of all that is carried, and its goal.

    Arcs stand in pairs, one that carries and one that takes back what it has carried. The height of
    a place is how much its column is changed; an arc that can carry more leads up by its gain at
    least, so what is carried along level paths is worth as much as can be.
    """

    def __init__(self, system, columns, weights):
        self.origin = system.many
        self.goal = system.many + 1
        self.leaving = [[] for _ in range(system.many + 2)]
        self.ends = []
        self.gains = []
        self.room = []
        # Of the demands of two lines one with the greatest difference is enough; it stands last.
        strongest = {(demand[0], demand[1]): at for at, demand in enumerate(system.all_demands)}
        self.arcs = {}
        for upper, lower in strongest:
            if upper != lower:
                at = strongest[(upper, lower)]
                tail = self.origin if lower == GROUND else lower
                head = self.goal if upper == GROUND else upper
                self.arcs[at] = len(self.ends)
                # All that is carried passes by a weight at its start or its goal, so an arc never is full.
                self._add_arc(tail, head, lack_of(columns, system.all_demands[at]), 2 * sum(weights) + 1)
        for line, weight in enumerate(weights):
            self._add_arc(self.origin, line, 0, weight)
            self._add_arc(line, self.goal, 0, weight)
        heights = [narrow - column for narrow, column in zip(system.narrowest, columns)]
        # So low a start and so high a goal that all arcs lead up by their gains.
        self.heights = heights + [min(heights + [0]), max(heights + [0])]

    def _add_arc(self, tail, head, gain, room):
        """Adds an arc that can carry so much, and its opposite."""
        self.leaving[tail].append(len(self.ends))
        self.leaving[head].append(len(self.ends) + 1)
        self.ends.extend([head, tail])
        self.gains.extend([gain, -gain])
        self.room.extend([room, 0])

    def settle(self):
        """Carries as long as it is worth something; then the start and the goal are level."""
        while self.heights[self.goal] > self.heights[self.origin]:
            path = self._level_path()
            if path:
                self._carry(path)

    def _level_path(self):
        """Lowers places until a path to the goal is level, or the goal has the height of the start.

        It is the path, as a list of arcs, or an empty list.
        """
        most = self.heights[self.goal] - self.heights[self.origin]
        far = {self.origin: 0}
        came = {}
        path = []
        queue = [(0, self.origin)]
        while queue and queue[0][0] < most:
            length, place = heappop(queue)
            if place == self.goal:
                most = length
                path = self._path_by(came)
            elif length == far[place]:
                for arc, further in self._steps(place, length):
                    head = self.ends[arc]
                    if head not in far or further < far[head]:
                        far[head] = further
                        came[head] = arc
                        heappush(queue, (further, head))
        self.heights = [height - min(most, far.get(place, most)) for place, height in enumerate(self.heights)]
        return path

    def _steps(self, place, length):
        """The arcs that can carry more from a place, and how much is lost on the way to their ends."""
        here = length - self.heights[place]
        return [(arc, here + self.heights[self.ends[arc]] - self.gains[arc])
                for arc in self.leaving[place] if self.room[arc] > 0]

    def _path_by(self, came):
        """The arcs of the path by which the goal was reached, the last one first."""
        path = []
        place = self.goal
        while place != self.origin:
            arc = came[place]
            path.append(arc)
            place = self.ends[arc ^ 1]
        return path

    def _carry(self, path):
        """Carries as much as can be along a path."""
        amount = min([self.room[arc] for arc in path])
        for arc in path:
            self.room[arc] -= amount
            self.room[arc ^ 1] += amount

    def changes(self):
        """How much the column of each line is changed."""
        base = self.heights[self.origin]
        return [height - base for height in self.heights[:self.origin]]

    def amounts(self, many):
        """What each of so many demands carries."""
        return tuple([self.room[self.arcs[at] ^ 1] if at in self.arcs else 0 for at in range(many)])
