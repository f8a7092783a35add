"""Machines: what they are, where words lead in them, products, and likeness."""

from spandrel.blocks import blocks_of
from spandrel.errors import BadMachine, BadState, TooMuch
from spandrel.letters import bits_of, check_same_letters, check_word, is_below, is_letter_count

MOST_STATES = 400
MOST_EDGES = 6000


def check_machine(m):
    """Raises BadMachine unless a thing is a machine within the bounds."""
    if not _is_machine(m):
        raise BadMachine()


def offers(m, state):
    """Tells the set of the letters of a state's edges."""
    check_machine(m)
    if not is_below(state, len(m[1])):
        raise BadState()
    return offered(m[1][state])


def offered(row):
    """Tells the set of the letters of a row's edges."""
    return bits_of([edge[0] for edge in row])


def led(m, word):
    """Tells the rising list of the states to which a word leads."""
    check_machine(m)
    check_word(m[0], word)
    return states_behind(m[1], word)


def states_behind(rows, word):
    """Tells the rising list of the states to which a word of any length leads."""
    # The words of papers may be very long, and come to the same states again and again.
    known = {}
    states = (0,)
    for letter in word:
        if (letter, states) not in known:
            known[(letter, states)] = _step(rows, states, letter)
        states = known[(letter, states)]
    return list(states)


def product(a, b):
    """Tells the machine that does what both machines do at the same time."""
    pairs = pairs_of(a, b)
    number = {pair: at for at, pair in enumerate(pairs)}
    rows = []
    many = 0
    for p, q in pairs:
        both = _edges_of_both(a[1][p], b[1][q])
        many += len(both)
        if many > MOST_EDGES:
            raise TooMuch()
        rows.append(tuple(sorted([(letter, number[pair]) for letter, pair in both])))
    return (a[0], tuple(rows))


def pairs_of(a, b):
    """Tells the list of the pairs of states that are the states of the product."""
    _check_both(a, b)
    pairs = [(0, 0)]
    found = {(0, 0): True}
    at = 0
    while at < len(pairs):
        p, q = pairs[at]
        for _, pair in _edges_of_both(a[1][p], b[1][q]):
            if pair not in found:
                found[pair] = True
                pairs.append(pair)
        if len(pairs) > MOST_STATES:
            raise TooMuch()
        at += 1
    return pairs


def alike(a, b):
    """Tells whether two machines are alike."""
    _check_both(a, b)
    many = len(a[1])
    moved = [[(letter, to + many) for letter, to in row] for row in b[1]]
    block = blocks_of(list(a[1]) + moved)
    return block[0] == block[many]


def _check_both(a, b):
    """Refuses two machines that are none, or that do not belong together."""
    check_machine(a)
    check_machine(b)
    check_same_letters(a, b)


def _is_machine(m):
    """Tells whether a thing is a machine within the bounds."""
    if not isinstance(m, tuple) or len(m) != 2:
        return False
    n, rows = m
    if not is_letter_count(n) or not isinstance(rows, tuple):
        return False
    if not 1 <= len(rows) <= MOST_STATES:
        return False
    if not all([isinstance(row, tuple) for row in rows]):
        return False
    if sum([len(row) for row in rows]) > MOST_EDGES:
        return False
    return all([_is_row(n, len(rows), row) for row in rows])


def _is_row(n, many, row):
    """Tells whether a tuple is the row of a state, if there are so many states."""
    for edge in row:
        if not _is_edge(n, many, edge):
            return False
    return all([row[at - 1] < row[at] for at in range(1, len(row))])


def _is_edge(n, many, edge):
    """Tells whether a thing is an edge, if there are so many states."""
    if not isinstance(edge, tuple) or len(edge) != 2:
        return False
    return is_below(edge[0], n) and is_below(edge[1], many)


def _step(rows, states, letter):
    """Tells the rising tuple of the states to which a letter leads from the given ones."""
    return tuple(sorted({edge[1] for state in states for edge in rows[state] if edge[0] == letter}))


def _edges_of_both(row, other):
    """Tells the list of the edges of a pair of states: each a letter and the pair to which it leads."""
    ends = {}
    for letter, to in other:
        ends.setdefault(letter, []).append(to)
    # Both rows rise, so the edges come in the order of the letter, the first and the second state.
    return [(letter, (p, q)) for letter, p in row for q in ends.get(letter, [])]
