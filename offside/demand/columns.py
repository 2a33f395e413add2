"""Systems of demands, and the columns that meet them."""

from offside.base.texts import MAX_LINES, are_columns
from offside.base.words import GROUND, check_number, is_column, is_integer
from offside.demand.lengths import all_lengths, bounds_of, chain_between, next_columns, ring_among
from offside.demand.rows import Wanted, do_meet, is_demand
from offside.errors import InvalidDemand, InvalidNumber, InvalidOperation, InvalidText, NoColumns

MAX_DEMANDS = 600


def is_demand_within(value, many):
    """Whether the value is a demand between so many lines and the ground."""
    return is_demand(value) and value[0] < many and value[1] < many


def are_demands(value, many):
    """Whether the value is a tuple of at most 600 demands between so many lines and the ground."""
    if not isinstance(value, tuple) or len(value) > MAX_DEMANDS:
        return False
    return all([is_demand_within(demand, many) for demand in value])


class System:
    """Some lines and demands between them. A system never changes."""

    def __init__(self, many, demands=()):
        check_number(many, 0, MAX_LINES)
        if not are_demands(demands, many):
            raise InvalidDemand("demands are at most 600, between the lines and the ground")
        self._many = many
        self._demands = demands
        self._all_demands = tuple(sorted(set(list(demands) + bounds_of(many))))
        self._lengths = all_lengths(many, self._all_demands)
        self._narrowest = None
        self._widest = None
        if self._lengths is not None:
            self._narrowest = tuple([self._lengths[line][GROUND] for line in range(many)])
            self._widest = tuple([-self._lengths[GROUND][line] for line in range(many)])

    @classmethod
    def wanting(cls, wanted):
        """The system of a wanted row."""
        if not isinstance(wanted, Wanted):
            raise InvalidOperation("only a wanted row has a system")
        return System(len(wanted), wanted.demands)

    @property
    def many(self):
        """The number of lines."""
        return self._many

    @property
    def demands(self):
        """The demands, as they were passed."""
        return self._demands

    @property
    def all_demands(self):
        """The demands with those that each line has besides, ascending, each once."""
        return self._all_demands

    @property
    def is_possible(self):
        """Whether there are columns."""
        return self._lengths is not None

    @property
    def narrowest(self):
        """The columns that are least in every line at once, or None."""
        return self._narrowest

    @property
    def widest(self):
        """The columns that are greatest in every line at once, or None."""
        return self._widest

    def ring(self):
        """Any ring, or None if there are columns."""
        return None if self.is_possible else ring_among(self._many, self._all_demands)

    def forced(self, upper, lower):
        """The greatest length of a chain from `lower` to `upper`."""
        self._check_places(upper, lower)
        self._check_possible()
        return self._lengths[upper][lower]

    def chain(self, upper, lower):
        """Any chain from `lower` to `upper` of the greatest length."""
        self._check_places(upper, lower)
        self._check_possible()
        return chain_between(self._lengths, self._all_demands, upper, lower)

    def range_of(self, line):
        """The least and the greatest column that a line has in some columns."""
        check_number(line, 0, self._many - 1)
        self._check_possible()
        return self._narrowest[line], self._widest[line]

    def are_tied(self, one, other):
        """Whether the difference of two lines is the same in all columns."""
        self._check_places(one, other)
        self._check_possible()
        return self._lengths[one][other] + self._lengths[other][one] == 0

    def ties(self):
        """The lines and the ground, divided into those that are tied to one another."""
        self._check_possible()
        found = []
        for place in range(GROUND, self._many):
            tied = tuple([other for other in range(GROUND, self._many) if self.are_tied(place, other)])
            if tied[0] == place:
                found.append(tied)
        return tuple(found)

    def is_met(self, columns):
        """Whether these are columns of the system."""
        if not are_columns(columns, self._many):
            raise InvalidText("columns are a tuple with one for each line")
        return all([do_meet(columns, demand) for demand in self._all_demands])

    def fixed(self, line, column):
        """The system in which a line has this column."""
        check_number(line, 0, self._many - 1)
        if not is_column(column):
            raise InvalidNumber(column)
        return System(self._many, self._demands + ((line, GROUND, column), (GROUND, line, -column)))

    def with_demands(self, *demands):
        """The system with further demands."""
        return System(self._many, self._demands + demands)

    def joined(self, other):
        """The system with the demands of both."""
        if not isinstance(other, System) or other._many != self._many:
            raise InvalidOperation("only systems with as many lines are joined")
        return System(self._many, self._demands + other._demands)

    def implies(self, value):
        """Whether the value is a demand between the lines that all columns meet."""
        if not is_demand_within(value, self._many):
            return False
        return not self.is_possible or self._lengths[value[0]][value[1]] >= value[2]

    def is_alike(self, value):
        """Whether the value is a system with as many lines and the same columns."""
        if not isinstance(value, System) or value._many != self._many:
            return False
        return self._lengths == value._lengths

    def each(self, limit):
        """A generator: the columns in ascending order, at most so many."""
        if not is_integer(limit) or limit < 0:
            raise InvalidNumber(limit)
        columns = self._narrowest
        left = limit
        while columns is not None and left > 0:
            yield columns
            columns = next_columns(self._lengths, columns)
            left = left - 1

    def _check_places(self, *places):
        """Raises InvalidNumber with the first one that is neither a line nor the ground."""
        for place in places:
            check_number(place, GROUND, self._many - 1)

    def _check_possible(self):
        """Raises NoColumns if there are no columns."""
        if self._lengths is None:
            raise NoColumns(self._many)

    def __len__(self):
        return len(self._all_demands)

    def __eq__(self, other):
        return isinstance(other, System) and self._many == other._many and self._all_demands == other._all_demands

    def __str__(self):
        word = "impossible" if self._lengths is None else "possible"
        return f"{self._many} lines, {len(self._all_demands)} demands, {word}"


def check_system(system):
    """Raises InvalidOperation unless the value is a system."""
    if not isinstance(system, System):
        raise InvalidOperation("this is no system")


def end_of_chain(demands, lower, value):
    """Where a chain of these demands leads from a line or the ground, or None if it is none."""
    place = lower
    every = set(demands)
    for demand in value:
        # What is no demand need not be a possible member of a set.
        if not is_demand(demand) or demand not in every or demand[1] != place:
            return None
        place = demand[0]
    return place


def is_ring_among(demands, value):
    """Whether the value is a ring of these demands."""
    if not isinstance(value, tuple) or not value or not is_demand(value[0]):
        return False
    start = value[0][1]
    return end_of_chain(demands, start, value) == start and sum([demand[2] for demand in value]) > 0


def is_chain(system, upper, lower, value):
    """Whether the value is a chain of demands from `lower` to `upper`."""
    check_system(system)
    check_number(upper, GROUND, system.many - 1)
    check_number(lower, GROUND, system.many - 1)
    return isinstance(value, tuple) and end_of_chain(system.all_demands, lower, value) == upper


def is_ring(system, value):
    """Whether the value is a ring of demands."""
    check_system(system)
    return is_ring_among(system.all_demands, value)


def span(system, line, column):
    """Columns in which the line has this column, or a ring of the system in which it has it."""
    check_system(system)
    found = system.fixed(line, column)
    return ("columns", found.narrowest) if found.is_possible else ("ring", found.ring())
