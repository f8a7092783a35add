"""What falls, what is hollow, and what is left of it, in demands with any number of states."""

from spandrel.letters import bits_of, members, together
from spandrel.numbering import found_only


def standing_sets(state, under):
    """Tells the list of a state's accepted sets that do not fall under the given states."""
    accepts, ahead = state
    falling = bits_of([letter for letter, to in enumerate(ahead) if to in under])
    return [bits for bits in accepts if not bits & falling]


def rungs(states):
    """Tells the list of the hollow states, in an order in which they are a ladder."""
    before = _states_before(states)
    under = {}
    waiting = list(range(len(states)))
    while waiting:
        at = waiting.pop()
        if at not in under and not standing_sets(states[at], under):
            under[at] = True
            # Only what leads to a new rung can have become hollow by it.
            waiting.extend(before[at])
    return list(under)


def trimmed_states(n, states):
    """Tells the states of the trimmed demand."""
    under = {at: True for at in rungs(states)}
    # No letter that is left leads to a hollow state, so these are not found. And if state 0 is hollow,
    # none of its sets is left, which makes it nothing.
    return found_only([_cut(n, state, under) for state in states])


def _states_before(states):
    """Tells for each state the list of the states that lead to it."""
    before = [[] for _ in states]
    for at, (_, ahead) in enumerate(states):
        for to in ahead:
            if to != -1:
                before[to].append(at)
    return before


def _cut(n, state, under):
    """Tells a state with those of its sets alone that do not fall, and -1 for letters in none of them."""
    standing = standing_sets(state, under)
    left = members(n, together(standing))
    return (tuple(standing), tuple([to if letter in left else -1 for letter, to in enumerate(state[1])]))
