"""Machines within the bounds that keep a demand and do a word, however long it is."""

from spandrel.letters import members


def machine_doing(d, word, bits):
    """Tells a machine that keeps a trimmed demand, does the word, and has a state behind it that offers the set.

    The word leads in the demand to a state that accepts the set.
    """
    n, states = d
    chosen = _chosen(n, states, word, bits)
    # The rows of state 0 come first, and its first set is the one that the word begins with.
    shift = [0]
    for sets in chosen:
        shift.append(shift[-1] + len(sets))
    rows = []
    for sets, (_, ahead) in zip(chosen, states):
        for offered_set in sets:
            rows.append(_row(n, offered_set, ahead, shift))
    return (n, tuple(rows))


def _chosen(n, states, word, bits):
    """Tells for each state of the demand the sets that are offered there, each by a row of its own.

    A word may be longer than a machine has rows, so the machine takes one of several edges instead of
    counting. As each set has a letter that is in none before it, these are at most five for a state,
    with 15 letters in all. With one set more, that makes at most 201 rows and (600 + 5) * 6 edges.
    """
    chosen = [[] for _ in states]
    at = 0
    for letter in word:
        accepts, ahead = states[at]
        if not _with_letter(chosen[at], letter):
            chosen[at].append(_with_letter(accepts, letter)[0])
        at = ahead[letter]
    if bits not in chosen[at]:
        chosen[at].append(bits)
    return [sets if sets else [accepts[0]] for sets, (accepts, _) in zip(chosen, states)]


def _with_letter(sets, letter):
    """Tells the list of the sets that have the letter."""
    return [bits for bits in sets if (bits >> letter) & 1]


def _row(n, bits, ahead, shift):
    """Tells the row that offers a set and leads by each letter to all rows of the state behind it."""
    row = []
    for letter in members(n, bits):
        to = ahead[letter]
        row.extend([(letter, end) for end in range(shift[to], shift[to + 1])])
    return tuple(row)
