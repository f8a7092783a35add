"""Numbering the states of a demand anew, in the order in which they are found."""


def found_states(ahead):
    """Tells the list of the states that are reached from 0, in the order in which they are found.

    For each state, ahead holds the states to which it leads, in the order of the letters.
    """
    states = [0]
    seen = {0: True}
    at = 0
    while at < len(states):
        for to in ahead[states[at]]:
            if to not in seen:
                seen[to] = True
                states.append(to)
        at += 1
    return states


def renumbered(states, kept):
    """Tells the tuple of the kept ones of a demand's states, numbered in the order of the list kept.

    The kept states lead to kept ones, or to -1.
    """
    number = {state: at for at, state in enumerate(kept)}
    number[-1] = -1
    told = []
    for at in kept:
        accepts, ahead = states[at]
        told.append((accepts, tuple([number[to] for to in ahead])))
    return tuple(told)
