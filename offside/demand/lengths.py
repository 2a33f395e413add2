"""The lengths of chains of demands, and chains and rings themselves.

The lines and the ground are the places in lists that have the ground last, so -1 is its index.
"""

from offside.base.words import GROUND, MAX_COLUMN


def bounds_of(many):
    """The demands that each line has besides: its column is one."""
    found = []
    for line in range(many):
        found.extend([(line, GROUND, 0), (GROUND, line, -MAX_COLUMN)])
    return found


def single_lengths(many, demands):
    """For each upper and lower line the greatest length of a chain of one or two demands.

    Chains of two are those by the bounds of both lines, which there are for all.
    """
    lengths = [[-MAX_COLUMN] * many + [0] for _ in range(many + 1)]
    for line in range(many):
        lengths[line][line] = 0
    for upper, lower, least in demands:
        if least > lengths[upper][lower]:
            lengths[upper][lower] = least
    return lengths


def has_ring(lengths):
    """Whether some line, or the ground, has a chain to itself with a length above 0."""
    return any([lengths[at][at] > 0 for at in range(len(lengths))])


def all_lengths(many, demands):
    """For each upper and lower line the greatest length of a chain, or None if there is a ring."""
    lengths = single_lengths(many, demands)
    for between in range(many + 1):
        if has_ring(lengths):
            return None
        first = lengths[between]
        for upper in range(many + 1):
            row = lengths[upper]
            second = row[between]
            lengths[upper] = [old if old >= second + new else second + new for old, new in zip(row, first)]
    return None if has_ring(lengths) else lengths


def chain_between(lengths, demands, upper, lower):
    """A chain from `lower` to `upper` of the greatest length, without a line twice."""
    came = {lower: ()}
    ahead = [lower]
    at = 0
    while upper not in came:
        place = ahead[at]
        at += 1
        for demand in demands:
            if demand[1] == place and demand[0] not in came:
                # Only demands that lie on a longest chain are followed.
                if lengths[demand[0]][lower] == lengths[place][lower] + demand[2]:
                    came[demand[0]] = came[place] + (demand,)
                    ahead.append(demand[0])
    return came[upper]


def ring_among(many, demands):
    """A ring of demands, of which there is one."""
    heights = [0] * (many + 1)
    came = [()] * (many + 1)
    last = GROUND
    # As long as there is a ring, each round raises something.
    for _ in range(many + 1):
        for demand in demands:
            upper, lower, least = demand
            if heights[lower] + least > heights[upper]:
                heights[upper] = heights[lower] + least
                came[upper] = demand
                last = upper
    for _ in range(many + 1):
        # So many steps back lead into a ring.
        last = came[last][1]
    ring = [came[last]]
    while ring[-1][1] != last:
        ring.append(came[ring[-1][1]])
    return tuple(reversed(list(ring)))


def least_behind(lengths, columns):
    """The least column of the line behind those that have these columns."""
    line = len(columns)
    return max([column + lengths[line][at] for at, column in enumerate(columns)] + [lengths[line][GROUND]])


def greatest_behind(lengths, columns):
    """The greatest column of the line behind those that have these columns."""
    line = len(columns)
    return min([column - lengths[at][line] for at, column in enumerate(columns)] + [-lengths[GROUND][line]])


def next_columns(lengths, columns):
    """The columns that come behind these in ascending order, or None."""
    for line in range(len(columns) - 1, -1, -1):
        if columns[line] < greatest_behind(lengths, columns[:line]):
            found = list(columns[:line]) + [columns[line] + 1]
            while len(found) < len(columns):
                found.append(least_behind(lengths, found))
            return tuple(found)
    return None


def with_longer(lengths, demand):
    """The greatest lengths of chains with a further demand, which makes no ring."""
    upper, lower, least = demand
    tails = lengths[lower]
    found = []
    for row in lengths:
        ahead = row[upper] + least
        found.append([old if old >= ahead + tail else ahead + tail for old, tail in zip(row, tails)])
    return found


def without_implied(many, demands):
    """Some of the demands that have just the columns that all of them have.

    Those between near lines come first, as chains of them imply the others.
    """
    full = all_lengths(many, demands + bounds_of(many))
    if full is None:
        return list(ring_among(many, sorted(demands + bounds_of(many))))
    lengths = all_lengths(many, bounds_of(many))
    found = []
    for demand in sorted(demands, key=lambda item: (full[item[0]][GROUND] - full[item[1]][GROUND], item)):
        if lengths[demand[0]][demand[1]] < demand[2]:
            lengths = with_longer(lengths, demand)
            found.append(demand)
    return found
