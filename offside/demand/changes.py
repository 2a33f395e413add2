"""Least changes of columns, and flows that show them to be least."""

from offside.base.checks import check_book, check_text
from offside.base.texts import MAX_LINES, are_columns
from offside.base.words import check_number, is_column, is_integer
from offside.demand.columns import System, check_system, is_ring
from offside.demand.flows import Network, lack_of
from offside.demand.rows import Wanted, check_row, first_impossible
from offside.errors import InvalidNumber, InvalidOperation, InvalidText

MAX_WEIGHT = 1000


def are_weights(value, many):
    """Whether the value is None, or a tuple of so many integers from 0 to 1000."""
    if value is None:
        return True
    if not isinstance(value, tuple) or len(value) != many:
        return False
    return all([is_integer(weight) and 0 <= weight <= MAX_WEIGHT for weight in value])


def weights_told(weights, many):
    """The weights of so many lines, 1 in each for None."""
    return (1,) * many if weights is None else weights


def check_weights(weights, many):
    """Raises InvalidOperation unless these are weights of so many lines."""
    if not are_weights(weights, many):
        raise InvalidOperation("weights are integers from 0 to 1000, one for each line, or None")


def check_columns(columns, many):
    """Raises InvalidText unless these are so many columns."""
    if not are_columns(columns, many):
        raise InvalidText("columns are a tuple with one for each line")


def price_told(columns, others, weights):
    """The price of other columns with these weights of the lines."""
    return sum([weight * abs(one - other) for weight, one, other in zip(weights, columns, others)])


def worth_told(system, columns, flow):
    """The worth of numbers, one for each demand of a system."""
    return sum([amount * lack_of(columns, demand) for amount, demand in zip(flow, system.all_demands)])


def are_amounts(system, value):
    """Whether the value is a tuple of integers of at least 0, one for each demand of a system."""
    if not isinstance(value, tuple) or len(value) != len(system):
        return False
    return all([is_integer(amount) and amount >= 0 for amount in value])


def is_balanced(system, weights, flow):
    """Whether what comes into each line and what goes out of it differ by its weight at most."""
    # The ground stands last, where its index -1 leads.
    balances = [0] * (system.many + 1)
    for amount, (upper, lower, _) in zip(flow, system.all_demands):
        balances[upper] += amount
        balances[lower] -= amount
    return all([abs(balances[line]) <= weights[line] for line in range(system.many)])


def price(columns, others, weights=None):
    """The price of other columns in the place of these."""
    if not isinstance(columns, tuple) or len(columns) > MAX_LINES:
        raise InvalidText("columns are a tuple of at most sixty")
    many = len(columns)
    check_columns(columns, many)
    check_columns(others, many)
    check_weights(weights, many)
    return price_told(columns, others, weights_told(weights, many))


def is_flow(system, weights, value):
    """Whether the value is a flow."""
    check_system(system)
    check_weights(weights, system.many)
    return are_amounts(system, value) and is_balanced(system, weights_told(weights, system.many), value)


def worth(system, columns, flow):
    """The worth of numbers for the demands, whether or not they are a flow."""
    check_system(system)
    check_columns(columns, system.many)
    if not are_amounts(system, flow):
        raise InvalidOperation("a flow has an integer of at least 0 for each of all demands")
    return worth_told(system, columns, flow)


def least_change(system, columns, weights=None):
    """A least change with a flow that is worth as much as its price, or a ring."""
    check_system(system)
    check_columns(columns, system.many)
    check_weights(weights, system.many)
    if not system.is_possible:
        return ("ring", system.ring())
    network = Network(system, columns, weights_told(weights, system.many))
    network.settle()
    others = tuple([column + change for column, change in zip(columns, network.changes())])
    return ("change", others, network.amounts(len(system)))


def is_shown(system, columns, weights, others, flow):
    """Whether the other columns are a least change, and a flow that can be told shows it."""
    if not are_columns(others, system.many) or not system.is_met(others) or not are_amounts(system, flow):
        return False
    if not all([amount < 10 ** 50 for amount in flow]) or not is_balanced(system, weights, flow):
        return False
    return worth_told(system, columns, flow) == price_told(columns, others, weights)


def is_change(system, columns, weights, value):
    """Whether the value shows a least change, or that there are no columns."""
    check_system(system)
    check_columns(columns, system.many)
    check_weights(weights, system.many)
    if not isinstance(value, tuple) or not value:
        return False
    if len(value) == 2 and value[0] == "ring":
        return is_ring(system, value[1])
    if len(value) != 3 or value[0] != "change":
        return False
    return is_shown(system, columns, weights_told(weights, system.many), value[1], value[2])


def line_moved(system, columns, line, column, weights=None):
    """A least change in which a line has this column, or a ring."""
    check_system(system)
    many = system.many
    check_columns(columns, many)
    check_number(line, 0, many - 1)
    if not is_column(column):
        raise InvalidNumber(column)
    check_weights(weights, many)
    old = weights_told(weights, many)
    new_columns = columns[:line] + (column,) + columns[line + 1:]
    new_weights = old[:line] + (0,) + old[line + 1:]
    return least_change(system.fixed(line, column), new_columns, new_weights)


def repaired(book, text, row, weights=None):
    """The text with the columns of a least change with which it has this row, or None."""
    check_book(book)
    check_text(text)
    check_row(book, text.words, row)
    check_weights(weights, len(text))
    if first_impossible(book, text.words, row) is not None:
        return None
    paper = least_change(System.wanting(Wanted(book, text.words, row)), text.columns, weights)
    return text.at(paper[1]) if paper[0] == "change" else None
