"""Whether a machine keeps a demand, with a paper that shows it, and the checker of such papers."""

from spandrel.demand import check_demand, state_behind
from spandrel.errors import BadLetters, BadMachine
from spandrel.letters import check_same_letters, is_below, is_word
from spandrel.machine import check_machine, offered, states_behind


def keeps(m, d):
    """Tells the paper that settles whether a machine keeps a demand."""
    _check_both(m, d)
    rows, states = m[1], d[1]
    sets = [offered(row) for row in rows]
    # Each pair of states stands in one group, that of its least word. The groups come in the order
    # of these words. A word leads to one state of the demand, so each group has just one.
    groups = [(0, [0])]
    came = [(-1, -1)]
    seen = {(0, 0): True}
    at = 0
    while at < len(groups):
        q, ends = groups[at]
        accepts, ahead = states[q]
        wrong = [p for p in ends if sets[p] not in accepts]
        if wrong:
            return ("no", word_of(came, at), min(wrong))
        for letter, to in enumerate(ahead):
            # Where to is -1, no state of the group has an edge, since q accepts what they offer.
            new = _new_ends(rows, ends, letter, to, seen)
            if new:
                groups.append((to, new))
                came.append((at, letter))
        at += 1
    return ("yes", tuple(sorted(seen)))


def is_kept(m, d, paper):
    """Tells whether a paper settles whether a machine keeps a demand."""
    _check_both(m, d)
    if not isinstance(paper, tuple):
        return False
    if len(paper) == 2 and paper[0] == "yes":
        return _are_keeping(m, d, paper[1])
    if len(paper) == 3 and paper[0] == "no":
        return _is_fault(m, d, paper[1], paper[2])
    return False


def is_keeper(thing, d):
    """Tells whether a thing is a machine that keeps the demand."""
    try:
        return keeps(thing, d)[0] == "yes"
    except (BadMachine, BadLetters):
        return False


def _check_both(m, d):
    """Refuses a machine or a demand that is none, and two that do not belong together."""
    check_machine(m)
    check_demand(d)
    check_same_letters(m, d)


def _new_ends(rows, ends, letter, q, seen):
    """Tells the states behind a letter that make new pairs with q, and marks these pairs as seen."""
    new = []
    for p in ends:
        for edge in rows[p]:
            if edge[0] == letter and (edge[1], q) not in seen:
                seen[(edge[1], q)] = True
                new.append(edge[1])
    return new


def word_of(came, at):
    """Tells the word by which a search came to a place; came holds for each the one before it, and the letter."""
    letters = []
    while at != 0:
        at, letter = came[at]
        letters.append(letter)
    return tuple(letters[::-1])


def _are_keeping(m, d, pairs):
    """Tells whether a thing is a tuple of pairs by which a machine keeps a demand."""
    if not isinstance(pairs, tuple):
        return False
    if not all([_is_pair(len(m[1]), len(d[1]), pair) for pair in pairs]):
        return False
    told = {pair: True for pair in pairs}
    sets = [offered(row) for row in m[1]]
    if (0, 0) not in told:
        return False
    return all([_holds(m[1][p], sets[p], d[1][q], told) for p, q in told])


def _is_pair(many, also, thing):
    """Tells whether a thing is a pair of a state of a machine and one of a demand."""
    if not isinstance(thing, tuple) or len(thing) != 2:
        return False
    return is_below(thing[0], many) and is_below(thing[1], also)


def _holds(row, bits, state, told):
    """Tells whether a state accepts what a row offers, and the pairs behind the row's edges are told."""
    accepts, ahead = state
    return bits in accepts and all([(to, ahead[letter]) in told for letter, to in row])


def _is_fault(m, d, word, state):
    """Tells whether a thing and another one are the word and the state of a fault."""
    n, rows = m
    if not is_word(n, word) or not is_below(state, len(rows)):
        return False
    q = state_behind(d[1], word)
    if q == -1 or state not in states_behind(rows, word):
        return False
    return offered(rows[state]) not in d[1][q][0]
