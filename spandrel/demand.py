"""Demands: what they are, where words lead in them, and the plainest ones."""

from spandrel.errors import BadDemand, TooMuch
from spandrel.letters import check_same_letters, check_word, full_set, is_letter_count, is_number, is_set, members
from spandrel.machine import check_machine, offered
from spandrel.numbering import found_states, renumbered

MOST_DEMAND_STATES = 40


def check_demand(d):
    """Raises BadDemand unless a thing is a demand within the bounds."""
    if not _is_demand(d):
        raise BadDemand()


def check_two_demands(a, b):
    """Refuses two demands that are none, or that do not belong together."""
    check_demand(a)
    check_demand(b)
    check_same_letters(a, b)


def led_to(d, word):
    """Tells the state to which a word leads, or -1."""
    check_demand(d)
    check_word(d[0], word)
    return state_behind(d[1], word)


def state_behind(states, word):
    """Tells the state to which a word of any length leads, or -1."""
    at = 0
    for letter in word:
        # A demand has no state -1, but Python would take it for the last one.
        if at == -1:
            return -1
        at = states[at][1][letter]
    return at


def anything(n):
    """Tells the demand that every machine keeps."""
    return (n, ((tuple(range(full_set(n) + 1)), (0,) * n),))


def nothing(n):
    """Tells the demand that no machine keeps."""
    return (n, (((), (-1,) * n),))


def only(m):
    """Tells the demand that just the machines alike to m keep, or None if some word leads m to several states."""
    check_machine(m)
    n, rows = m
    reached = found_states([[to for _, to in row] for row in rows])
    if any([_has_several(rows[state]) for state in reached]):
        return None
    if len(reached) > MOST_DEMAND_STATES:
        raise TooMuch()
    return (n, renumbered({state: _just(n, rows[state]) for state in reached}, reached))


def _has_several(row):
    """Tells whether a row has several edges of one letter."""
    return len({letter for letter, _ in row}) < len(row)


def _just(n, row):
    """Tells the state that accepts what a row offers and nothing else, and leads where its edges lead."""
    ends = {letter: to for letter, to in row}
    return ((offered(row),), tuple([ends.get(letter, -1) for letter in range(n)]))


def _is_demand(d):
    """Tells whether a thing is a demand within the bounds."""
    if not isinstance(d, tuple) or len(d) != 2:
        return False
    n, states = d
    if not is_letter_count(n) or not isinstance(states, tuple):
        return False
    if not 1 <= len(states) <= MOST_DEMAND_STATES:
        return False
    return all([_is_state(n, len(states), state) for state in states])


def _is_state(n, many, state):
    """Tells whether a thing is a state of a demand, if there are so many states."""
    if not isinstance(state, tuple) or len(state) != 2:
        return False
    accepts, ahead = state
    if not _is_accepts(n, accepts) or not _is_ahead(n, many, ahead):
        return False
    return all([ahead[letter] != -1 for bits in accepts for letter in members(n, bits)])


def _is_accepts(n, accepts):
    """Tells whether a thing is a strictly rising tuple of sets."""
    if not isinstance(accepts, tuple):
        return False
    if not all([is_set(n, bits) for bits in accepts]):
        return False
    return all([accepts[at - 1] < accepts[at] for at in range(1, len(accepts))])


def _is_ahead(n, many, ahead):
    """Tells whether a thing holds a state or -1 for each letter, if there are so many states."""
    if not isinstance(ahead, tuple) or len(ahead) != n:
        return False
    return all([is_number(to) and -1 <= to < many for to in ahead])
