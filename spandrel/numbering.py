"""Numbering the states of a demand, in the order in which they are found."""


def found_states(ahead):
    """Tells the list of the states that are reached from 0, in the order in which they are found.

    For each state, ahead holds the states to which it leads, in the order of the letters.
    """
    states = [0]
    seen = {0: True}
    at = 0
    while at < len(states):
        for to in ahead[states[at]]:
            if to not in seen:
                seen[to] = True
                states.append(to)
        at += 1
    return states


def renumbered(states, kept):
    """Tells the tuple of the kept ones of a demand's states, numbered in the order of the list kept.

    The kept states lead to kept ones, or to -1.
    """
    number = {state: at for at, state in enumerate(kept)}
    number[-1] = -1
    told = []
    for at in kept:
        accepts, ahead = states[at]
        told.append((accepts, tuple([number[to] for to in ahead])))
    return tuple(told)


def found_only(states):
    """Tells the tuple of those of a demand's states that are found from 0, numbered as they are found."""
    return renumbered(states, found_states([[to for to in ahead if to != -1] for _, ahead in states]))


def states_from(start, state_of):
    """Tells the tuple of the states of a demand whose states have keys, numbered as they are found.

    The function state_of tells for each key what the state accepts, and for each letter the key of
    the state to which it leads, or None.
    """
    keys = [start]
    number = {start: 0, None: -1}
    told = []
    while len(told) < len(keys):
        accepts, ahead = state_of(keys[len(told)])
        for key in ahead:
            if key not in number:
                number[key] = len(keys)
                keys.append(key)
        told.append((accepts, tuple([number[key] for key in ahead])))
    return tuple(told)
