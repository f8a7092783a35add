"""Dividing demands: what is asked of the part that is missing beside given ones."""

from spandrel.demand import check_demand, check_two_demands, state_behind
from spandrel.hollow import is_ladder, some, trimmed
from spandrel.keeping import is_keeper
from spandrel.letters import check_same_letters, full_set, is_word, together
from spandrel.machine import check_machine, offered, states_behind
from spandrel.numbering import states_from
from spandrel.smallest import least_demand
from spandrel.triples import are_triples, find_triples

FREE = (-1, -1)


def divided(t, s):
    """Tells the demand that is kept by just the machines that beside each one that keeps s keep t."""
    check_two_demands(t, s)
    n = t[0]
    states_t, states_s = trimmed(t)[1], trimmed(s)[1]
    every_set = tuple(range(full_set(n) + 1))

    def state_of(pair):
        # Behind words that nothing that keeps s does, the whole does nothing either: all is allowed.
        if pair == FREE:
            return (every_set, [FREE] * n)
        wanted, ahead_t = states_t[pair[0]]
        given, ahead_s = states_s[pair[1]]
        fitting = tuple([bits for bits in every_set if _fits(bits, given, wanted)])
        used, shared = together(fitting), together(given)
        ends = []
        for letter in range(n):
            end = (ahead_t[letter], ahead_s[letter]) if (shared >> letter) & 1 else FREE
            ends.append(end if (used >> letter) & 1 else None)
        return (fitting, ends)

    return least_demand(n, states_from((0, 0), state_of))


def completes(x, s, t):
    """Tells the paper that settles whether x beside each machine that keeps s keeps t."""
    _check_three(x, s, t)
    answer, shown, found = find_triples(x[1], s, t)
    if answer == "no":
        return ("no", shown, found)
    return ("yes", shown, tuple(sorted(found)))


def accepts(x, s, t, paper):
    """Tells whether a paper settles whether x beside each machine that keeps s keeps t."""
    _check_three(x, s, t)
    if not isinstance(paper, tuple) or len(paper) != 3:
        return False
    if paper[0] == "yes":
        return is_ladder(s, paper[1]) and are_triples(x[1], s, t, paper[1], paper[2])
    if paper[0] == "no":
        return is_keeper(paper[1], s) and _is_fault_beside(x, paper[1], t, paper[2])
    return False


def missing(t, s):
    """Tells a machine that beside each one that keeps s keeps t, or None if there is none."""
    return some(divided(t, s))


def _check_three(x, s, t):
    """Refuses a machine or demands that are none, or that do not belong together."""
    check_machine(x)
    check_demand(s)
    check_demand(t)
    check_same_letters(x, s)
    check_same_letters(s, t)


def _fits(bits, given, wanted):
    """Tells whether a set, beside each of the given ones, makes a wanted one."""
    return all([(bits & other) in wanted for other in given])


def _is_fault_beside(x, m, t, word):
    """Tells whether a thing is the word of a fault of the product of x and m under t."""
    if not is_word(t[0], word):
        return False
    at = state_behind(t[1], word)
    if at == -1:
        return False
    # The product may be large, but a word leads in it to just the pairs of what it leads to in both.
    sets = _offered_behind(x, word)
    others = _offered_behind(m, word)
    return not all([_fits(bits, others, t[1][at][0]) for bits in sets])


def _offered_behind(m, word):
    """Tells the list of the sets that are offered by the states to which the word leads, without equal ones."""
    return sorted({offered(m[1][state]) for state in states_behind(m[1], word)})
