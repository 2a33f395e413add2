"""Reading as the document tells it, in the plainest way, to compare the program with.

It shares nothing with the package but the books. A text is a list of pairs (column, words).
"""


class Stop(Exception):
    """The text is broken, for this reason."""


def _depth_and_need(book, opener):
    return book.openers[opener]


def _top_column(pile):
    return pile[-1][0] if pile else 0


def _head(book, pile, waiting, column, first):
    """The signs of the head; changes the pile."""
    closers = list(book.brackets.values())
    signs = []
    if first in book.enders or first in closers:
        if waiting:
            if _depth_and_need(book, waiting)[1] == "filled":
                raise Stop("filled")
            signs += ["{", "}"]
        return signs
    if waiting:
        depth, need = _depth_and_need(book, waiting)
        top = _top_column(pile)
        if column > top or (column == top and depth == "level"):
            pile.append((column, waiting))
            return ["{"]
        if need == "filled":
            raise Stop("filled")
        signs += ["{", "}"]
    ended = 0
    while pile and pile[-1][0] > column:
        pile.pop()
        ended += 1
    signs += ["}"] * ended
    if pile and pile[-1][1] in book.brackets:
        return signs
    if _top_column(pile) == column:
        return signs + [";"]
    rule, reason = (book.gap, "gap") if ended else (book.deep, "deep")
    if rule == "breaks":
        raise Stop(reason)
    return signs


def _words(book, pile, words):
    """The signs of the words of a line; changes the pile."""
    signs = []
    for word in words:
        if word in book.brackets:
            pile.append((-1, word))
        elif word in book.brackets.values():
            places = [at for at, block in enumerate(pile) if block[1] in book.brackets]
            if not places or book.brackets[pile[places[-1]][1]] != word:
                raise Stop("closer")
            signs += ["}"] * (len(pile) - places[-1] - 1)
            del pile[places[-1]:]
        elif word in book.enders:
            places = [at for at, block in enumerate(pile) if block[1] == book.enders[word]]
            if not places or any(block[1] in book.brackets for block in pile[places[-1]:]):
                raise Stop("ender")
            signs += ["}"] * (len(pile) - places[-1])
            del pile[places[-1]:]
        signs.append(word)
    return signs


def read_line(book, state, line):
    """(signs, state behind, length of the head), or the reason as a string."""
    pile, waiting = list(state[0]), state[1]
    column, words = line
    try:
        head = _head(book, pile, waiting, column, words[0])
        rest = _words(book, pile, words)
    except Stop as stop:
        return str(stop)
    opener = words[-1] if words[-1] in book.openers else ""
    return tuple(head + rest), (tuple(pile), opener), len(head)


def read_end(book, state):
    """The signs of the end, or the reason as a string."""
    signs = []
    if state[1]:
        if _depth_and_need(book, state[1])[1] == "filled":
            return "filled"
        signs += ["{", "}"]
    if any(block[1] in book.brackets for block in state[0]):
        return "open"
    return tuple(signs + ["}"] * len(state[0]))


def read(book, lines, state=((), ""), is_open=False):
    """(parts, fault, states, heads) of lines that are read from a state."""
    parts, states, heads = [], [state], []
    for index, line in enumerate(lines):
        told = read_line(book, states[-1], line)
        if isinstance(told, str):
            return tuple(parts), (index, told), tuple(states), tuple(heads)
        parts.append(told[0])
        states.append(told[1])
        heads.append(told[2])
    if not is_open:
        told = read_end(book, states[-1])
        if isinstance(told, str):
            return tuple(parts), (len(lines), told), tuple(states), tuple(heads)
        parts.append(told)
    return tuple(parts), None, tuple(states), tuple(heads)


def signs_read(book, lines, state=((), "")):
    """All signs of a text in one tuple, or None if it is broken."""
    parts, fault, _, _ = read(book, lines, state)
    return None if fault else sum(parts, ())


def is_regular(book, pile):
    """Whether a pile of blocks is regular."""
    below = 0
    for column, word in pile:
        if word not in book.brackets:
            if column < below or (column == below and book.openers[word][0] == "deeper"):
                return False
        below = column
    return True


def cases_of_line(book, pile, waiting, index, words):
    """All (signs, pile, waiting) of a line in some case, with a pile that is told by lines."""
    heads = []
    if words[0] in book.enders or words[0] in book.brackets.values():
        if not waiting:
            heads.append(([], pile))
        elif _depth_and_need(book, waiting)[1] == "empty":
            heads.append((["{", "}"], pile))
    elif waiting:
        heads.append((["{"], pile + [(index, waiting)]))
        on_bracket = pile and pile[-1][1] in book.brackets
        if _depth_and_need(book, waiting)[1] == "empty" and not on_bracket:
            heads += [(["{", "}"] + signs, rest) for signs, rest in _column_cases(book, pile)]
    else:
        heads += _column_cases(book, pile)
    found = []
    for signs, rest in heads:
        # The words look at the sorts of the blocks only, not at their columns or lines.
        after = [list(block) for block in rest]
        try:
            more = _words(book, after, words)
        except Stop:
            continue
        told = [(index if line == -1 else line, word) for line, word in after]
        found.append((tuple(signs + more), told, words[-1] if words[-1] in book.openers else ""))
    return found


def _column_cases(book, pile):
    """All (signs, pile) by which the column of a line can end blocks and stand on the next one."""
    found = []
    for many in range(len(pile) + 1):
        rest = pile[:len(pile) - many]
        if any(word in book.brackets for _, word in pile[len(rest):]):
            continue
        ends = ["}"] * many
        if rest and rest[-1][1] in book.brackets:
            found.append((ends, rest))
            continue
        found.append((ends + [";"], rest))
        if (book.gap if many else book.deep) == "joins":
            found.append((ends, rest))
    return found


def first_impossible(book, words, row):
    """The first line, or the end, with signs of no case: by trying all cases."""
    ways = [([], "")]
    for index, line in enumerate(words):
        behind = []
        for pile, waiting in ways:
            for signs, rest, opener in cases_of_line(book, pile, waiting, index, line):
                if signs == row[index]:
                    behind.append((rest, opener))
        if not behind:
            return index
        ways = behind
    ends = [read_end(book, way) for way in ways]
    return None if row[-1] in ends else len(words)


def blocks(book, lines, state=((), ""), is_open=False):
    """The blocks that lines have opened, and the homes of the lines: by matching all signs in a row."""
    parts, fault, states, heads = read(book, lines, state, is_open)
    found = []
    pile = [None] * len(state[0])
    homes = []
    last = -1
    for index, signs in enumerate(parts):
        for at, sign in enumerate(signs + ("",)):
            if index < len(heads) and at == heads[index]:
                homes.append(pile[-1] if pile else None)
            if sign == "{" and signs[at + 1] == "}":
                found.append([states[index][1], last, -1, -1])
                pile.append(None)
            elif sign == "{" or sign in book.brackets:
                pile.append(len(found))
                found.append([sign, index, index, None] if sign != "{" else [states[index][1], last, index, None])
            elif sign == "}" or sign in book.brackets.values():
                place = pile.pop()
                if place is not None:
                    found[place][3] = last
            if sign not in ("{", "}", ";", ""):
                last = index
    for block in found:
        if block[3] is None:
            block[3] = len(heads) - 1
    return tuple(tuple(block) for block in found), homes


def asked(book, lines, state):
    """How many blocks of the pile lines look at, the ground included, until they are read or break."""
    pile = list(state[0])
    waiting = state[1]
    lowest = [len(pile)]
    closers = list(book.brackets.values())

    def top():
        lowest[0] = min(lowest[0], len(pile) - 1)
        return pile[-1] if pile else (0, "")

    def read_words(words):
        for word in words:
            if word in book.enders or word in closers:
                while top()[1] in book.openers:
                    if pile.pop()[1] == book.enders.get(word):
                        break
                else:
                    if word not in closers or book.brackets.get(top()[1]) != word:
                        raise Stop("broken")
                    pile.pop()
            if word in book.brackets:
                pile.append((-1, word))

    try:
        for column, words in lines:
            first = words[0] in book.enders or words[0] in closers
            if waiting and not first:
                above = top()[0]
            if waiting and not first and (column > above or (column == above and book.openers[waiting][0] == "level")):
                pile.append((column, waiting))
            else:
                if waiting and book.openers[waiting][1] == "filled":
                    raise Stop("filled")
                ended = False
                while not first and top()[0] > column:
                    pile.pop()
                    ended = True
                if not first and -1 < top()[0] < column and (book.gap if ended else book.deep) == "breaks":
                    raise Stop("broken")
            read_words(words)
            waiting = words[-1] if words[-1] in book.openers else ""
    except Stop:
        pass
    return len(state[0]) - lowest[0]
