"""What cannot be kept: hollow states, ladders, trimmed demands, and machines that keep a demand."""

from spandrel.demand import check_demand
from spandrel.letters import check_set, check_word, is_below, members
from spandrel.trimming import rungs, standing_sets, trimmed_states


def hollow(d):
    """Tells the rising list of the states from which on no machine keeps the demand."""
    check_demand(d)
    return sorted(rungs(d[1]))


def is_ladder(d, states):
    """Tells whether a tuple of whole numbers is a ladder."""
    check_demand(d)
    if not isinstance(states, tuple):
        return False
    under = {}
    for at in states:
        if not is_below(at, len(d[1])) or at in under or standing_sets(d[1][at], under):
            return False
        under[at] = True
    return True


def ladder(d):
    """Tells a ladder of all hollow states."""
    check_demand(d)
    return tuple(rungs(d[1]))


def trimmed(d):
    """Tells the demand without all that cannot be kept."""
    check_demand(d)
    return (d[0], trimmed_states(d[0], d[1]))


def some(d):
    """Tells a machine that keeps the demand, or None if there is none."""
    n, states = trimmed(d)
    if not states[0][0]:
        return None
    return (n, tuple(_first_rows(n, states, 0)))


def with_word(d, word, bits):
    """Tells a machine that keeps the demand and by the word comes to offer the set, or None if there is none."""
    check_demand(d)
    check_word(d[0], word)
    check_set(d[0], bits)
    n, states = trimmed(d)
    # The word goes through rows of its own; all other letters lead behind them.
    behind = len(word) + 1
    rows = []
    q = 0
    for letter in word:
        accepts, ahead = states[q]
        fitting = [accepted for accepted in accepts if letter in members(n, accepted)]
        if not fitting:
            return None
        ends = [to + behind for to in ahead]
        ends[letter] = len(rows) + 1
        rows.append(_row(n, fitting[0], ends))
        q = ahead[letter]
    if bits not in states[q][0]:
        return None
    rows.append(_row(n, bits, [to + behind for to in states[q][1]]))
    return (n, tuple(rows + _first_rows(n, states, behind)))


def _first_rows(n, states, shift):
    """Tells for each state of a trimmed demand a row that offers the first of its sets."""
    return [_row(n, accepts[0], [to + shift for to in ahead]) for accepts, ahead in states]


def _row(n, bits, ends):
    """Tells the row that offers a set; ends holds for each letter the state to which its edge leads."""
    return tuple([(letter, ends[letter]) for letter in members(n, bits)])
