"""Joining demands: what keeps both, what keeps either, and what stands side by side."""

from spandrel.demand import check_two_demands, state_behind
from spandrel.hollow import trimmed, with_word
from spandrel.letters import check_set, check_word, together
from spandrel.numbering import states_from
from spandrel.smallest import least_demand


def meet(a, b):
    """Tells the demand that is kept by just the machines that keep both."""
    return _joined(a, b, _common_sets)


def either(a, b):
    """Tells the least demand that is kept by all machines that keep one of the two."""
    return _joined(a, b, _all_sets)


def beside(a, b):
    """Tells the least demand that all products keep, of a machine that keeps a and one that keeps b."""
    return _joined(a, b, _overlaps)


def parts(a, b, word, bits):
    """Tells machines that keep a and b, whose product by the word comes to offer the set, or None."""
    check_two_demands(a, b)
    check_word(a[0], word)
    check_set(a[0], bits)
    for first in _sets_behind(a, word):
        for second in _sets_behind(b, word):
            if first & second == bits:
                return (with_word(a, word, first), with_word(b, word, second))
    return None


def _joined(a, b, sets_of_both):
    """Tells the least demand whose states are pairs; sets_of_both tells what a pair accepts."""
    check_two_demands(a, b)
    n = a[0]
    # Where a word leads in one of the two alone, -1 stands for the other; Python takes -1 for the last one.
    nowhere = ((), (-1,) * n)
    states = trimmed(a)[1] + (nowhere,)
    others = trimmed(b)[1] + (nowhere,)

    def state_of(pair):
        sets, ahead = states[pair[0]]
        other_sets, other_ahead = others[pair[1]]
        joined = sets_of_both(sets, other_sets)
        used = together(joined)
        ends = [(ahead[letter], other_ahead[letter]) if (used >> letter) & 1 else None for letter in range(n)]
        return (joined, ends)

    return least_demand(n, states_from((0, 0), state_of))


def _common_sets(sets, others):
    """Tells the sets that both accept."""
    return tuple([bits for bits in sets if bits in others])


def _all_sets(sets, others):
    """Tells the sets that one of the two accepts, or both."""
    return tuple(sorted(set(sets + others)))


def _overlaps(sets, others):
    """Tells the sets that are offered by both together, where each offers a set that it accepts."""
    return tuple(sorted({bits & other for bits in sets for other in others}))


def _sets_behind(d, word):
    """Tells the sets that machines that keep the demand can come to offer by the word."""
    states = trimmed(d)[1]
    at = state_behind(states, word)
    return states[at][0] if at != -1 else ()
