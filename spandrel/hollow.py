"""What cannot be kept: hollow states, ladders, trimmed demands, and machines that keep a demand."""

from spandrel.demand import check_demand, nothing
from spandrel.letters import bits_of, check_set, check_word, is_below, members
from spandrel.numbering import found_states, renumbered


def hollow(d):
    """Tells the rising list of the states from which on no machine keeps the demand."""
    check_demand(d)
    return sorted(_rungs(d[1]))


def is_ladder(d, states):
    """Tells whether a tuple of whole numbers is a ladder."""
    check_demand(d)
    if not isinstance(states, tuple):
        return False
    under = {}
    for at in states:
        if not is_below(at, len(d[1])) or at in under or standing_sets(d[1][at], under):
            return False
        under[at] = True
    return True


def ladder(d):
    """Tells a ladder of all hollow states."""
    check_demand(d)
    return tuple(_rungs(d[1]))


def trimmed(d):
    """Tells the demand without all that cannot be kept."""
    check_demand(d)
    n, states = d
    under = {at: True for at in _rungs(states)}
    if 0 in under:
        return nothing(n)
    cut = [_cut(n, state, under) for state in states]
    # No letter that is left leads to a hollow state, so these are not found.
    reached = found_states([[to for to in ahead if to != -1] for _, ahead in cut])
    return (n, renumbered(cut, reached))


def some(d):
    """Tells a machine that keeps the demand, or None if there is none."""
    n, states = trimmed(d)
    if not states[0][0]:
        return None
    return (n, tuple(_first_rows(n, states, 0)))


def with_word(d, word, bits):
    """Tells a machine that keeps the demand and by the word comes to offer the set, or None if there is none."""
    check_demand(d)
    check_word(d[0], word)
    check_set(d[0], bits)
    n, states = trimmed(d)
    # The word goes through rows of its own; all other letters lead behind them.
    behind = len(word) + 1
    rows = []
    q = 0
    for letter in word:
        accepts, ahead = states[q]
        fitting = [accepted for accepted in accepts if letter in members(n, accepted)]
        if not fitting:
            return None
        ends = [to + behind for to in ahead]
        ends[letter] = len(rows) + 1
        rows.append(_row(n, fitting[0], ends))
        q = ahead[letter]
    if bits not in states[q][0]:
        return None
    rows.append(_row(n, bits, [to + behind for to in states[q][1]]))
    return (n, tuple(rows + _first_rows(n, states, behind)))


def standing_sets(state, under):
    """Tells the list of a state's accepted sets that do not fall under the given states."""
    accepts, ahead = state
    falling = bits_of([letter for letter, to in enumerate(ahead) if to in under])
    return [bits for bits in accepts if not bits & falling]


def _rungs(states):
    """Tells the list of the hollow states, in an order in which they are a ladder."""
    under = {}
    more = True
    while more:
        more = False
        for at, state in enumerate(states):
            if at not in under and not standing_sets(state, under):
                under[at] = True
                more = True
    return list(under)


def _cut(n, state, under):
    """Tells a state with those of its sets alone that do not fall, and -1 for letters in none of them."""
    standing = standing_sets(state, under)
    left = [letter for bits in standing for letter in members(n, bits)]
    return (tuple(standing), tuple([to if letter in left else -1 for letter, to in enumerate(state[1])]))


def _first_rows(n, states, shift):
    """Tells for each state of a trimmed demand a row that offers the first of its sets."""
    return [_row(n, accepts[0], [to + shift for to in ahead]) for accepts, ahead in states]


def _row(n, bits, ends):
    """Tells the row that offers a set; ends holds for each letter the state to which its edge leads."""
    return tuple([(letter, ends[letter]) for letter in members(n, bits)])
