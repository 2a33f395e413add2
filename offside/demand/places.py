"""Places for lines: columns for several readings at once, further lines, and lines that are moved."""

from offside.base.checks import check_book, check_text
from offside.base.texts import MAX_LINES, are_columns
from offside.base.words import MAX_COLUMN, check_number, is_words_of_line
from offside.demand.columns import MAX_DEMANDS, System, is_ring_among
from offside.demand.lengths import without_implied
from offside.demand.rows import Wanted, do_meet, is_demand
from offside.errors import Broken, InvalidOperation, InvalidText, TooMany
from offside.read.reading import Reading
from offside.read.walk import Rules, line_from, read_whole


def check_rows(rows):
    """Raises InvalidOperation unless these are wanted rows over the same words, one at least."""
    if not rows or not all([isinstance(row, Wanted) for row in rows]):
        raise InvalidOperation("there is a wanted row at least, and nothing else")
    if not all([row.words == rows[0].words for row in rows]):
        raise InvalidOperation("wanted rows are joined over the same words")


def demands_of_all(rows):
    """The demands of wanted rows, each once, ascending."""
    return sorted(set([demand for row in rows for demand in row.demands]))


def greatest_demands(demands):
    """Of ascending demands the greatest one of each two lines."""
    greatest = {demand[:2]: demand for demand in demands}
    return list(greatest.values())


def joint_demands(rows):
    """The demands of wanted rows, those left out that others imply if they are too many."""
    demands = demands_of_all(rows)
    if len(demands) > MAX_DEMANDS:
        demands = greatest_demands(demands)
    if len(demands) > MAX_DEMANDS:
        demands = without_implied(len(rows[0]), demands)
    return tuple(demands)


def joint(*rows):
    """The system with the demands of some wanted rows."""
    check_rows(rows)
    return System(len(rows[0]), joint_demands(rows))


def portable(*rows):
    """The narrowest columns that give all rows, or a ring of their demands."""
    system = joint(*rows)
    return ("columns", system.narrowest) if system.is_possible else ("ring", system.ring())


def is_portable(rows, value):
    """Whether the value is any columns that give all of the wanted rows, or a ring of their demands."""
    if not isinstance(rows, tuple):
        raise InvalidOperation("wanted rows are a tuple")
    check_rows(rows)
    if not isinstance(value, tuple) or len(value) != 2:
        return False
    if value[0] == "ring":
        return is_ring_among(demands_of_all(rows), value[1])
    if value[0] != "columns" or not are_columns(value[1], len(rows[0])):
        return False
    return all([row.is_read_by(value[1]) for row in rows])


def intervals(pairs):
    """As few triples (least, greatest, told) as can be, for ascending pairs of a number and what is told."""
    found = []
    for number, told in pairs:
        if found and found[-1][1] == number - 1 and found[-1][2] == told:
            found[-1] = (found[-1][0], number, told)
        else:
            found.append((number, number, told))
    return tuple(found)


def menu(book, text, words):
    """What a further line with these words would be behind a text, by its column."""
    check_book(book)
    check_text(text)
    if not is_words_of_line(words):
        raise InvalidText("a line has one to six words")
    reading = Reading(book, text, is_open=True)
    if reading.fault is not None:
        raise Broken(reading.fault[0])
    if len(text) == MAX_LINES:
        raise TooMany(MAX_LINES)
    rules = Rules(book)
    pairs = []
    for column in range(MAX_COLUMN + 1):
        reason, signs, _ = line_from(rules, reading.last_state, (column, words))
        pairs.append((column, reason if reason else signs))
    return intervals(pairs)


def row_with_part(book, text, first, last):
    """The row of a text that is not broken, with the lines of a part."""
    check_book(book)
    check_text(text)
    check_number(first, 0, len(text) - 1)
    check_number(last, first + 1, len(text))
    return Wanted.of(book, text)


def shift_bounds(wanted, columns, first, last):
    """Two lists of pairs of a shift and a demand that no lesser one meets, or that no greater one meets."""
    # The ground stands last, where its index -1 leads.
    heights = columns + (0,)
    least = []
    greatest = []
    for demand in wanted.demands:
        upper, lower, more = demand
        spare = heights[upper] - heights[lower] - more
        if first <= upper < last and not first <= lower < last:
            least.append((-spare, demand))
        if first <= lower < last and not first <= upper < last:
            greatest.append((spare, demand))
    return least, greatest


def shifts(book, text, first, last):
    """The least and the greatest shift of some lines that keep the row."""
    wanted = row_with_part(book, text, first, last)
    least, greatest = shift_bounds(wanted, text.columns, first, last)
    return max(least)[0], min(greatest)[0]


def stops(book, text, first, last):
    """A demand that is not met behind the least shift, and one that is not met behind the greatest."""
    wanted = row_with_part(book, text, first, last)
    least, greatest = shift_bounds(wanted, text.columns, first, last)
    return max(least)[1], min(greatest)[1]


def moved_columns(columns, first, last, by):
    """Columns, those of some lines greater by this, whether or not they are columns then."""
    return tuple([column + by if first <= at < last else column for at, column in enumerate(columns)])


def is_stop(wanted, columns, value):
    """Whether the value is a demand of a row that these columns do not meet."""
    return is_demand(value) and value in wanted.demands and not do_meet(columns, value)


def is_stops(book, text, first, last, value):
    """Whether the value is a pair of demands that stop the shifts of some lines on both sides."""
    wanted = row_with_part(book, text, first, last)
    if not isinstance(value, tuple) or len(value) != 2:
        return False
    least, greatest = shift_bounds(wanted, text.columns, first, last)
    lower = moved_columns(text.columns, first, last, max(least)[0] - 1)
    upper = moved_columns(text.columns, first, last, min(greatest)[0] + 1)
    return is_stop(wanted, lower, value[0]) and is_stop(wanted, upper, value[1])


def pastes(book, text, at, other):
    """The moves with which another text fits ahead of a line, with the signs that its lines have then."""
    check_book(book)
    check_text(text)
    check_number(at, 0, len(text))
    check_text(other)
    reading = Reading(book, text)
    row = reading.row()
    many = len(other)
    if len(text) + many > MAX_LINES:
        raise TooMany(MAX_LINES)
    if not many:
        return ((-MAX_COLUMN, MAX_COLUMN, ()),)
    rules = Rules(book)
    behind = text.lines[at:]
    pairs = []
    for by in range(-other.least, MAX_COLUMN - other.greatest + 1):
        lines = tuple([(column + by, words) for column, words in other.lines])
        parts, fault = read_whole(rules, lines + behind, reading.states[at])
        if fault is None and parts[many:] == row[at:]:
            pairs.append((by, parts[:many]))
    return intervals(pairs)
