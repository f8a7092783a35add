"""Comparing demands: whether each machine that keeps the one keeps the other, and least demands."""

from spandrel.demand import check_demand, check_two_demands
from spandrel.hollow import is_ladder
from spandrel.keeping import is_keeper
from spandrel.smallest import least_demand
from spandrel.triples import are_triples, every_row, find_triples


def refines(s, t):
    """Tells the paper that settles whether each machine that keeps s keeps t."""
    check_two_demands(s, t)
    answer, shown, found = find_triples(every_row(s[0]), s, t)
    if answer == "no":
        return ("no", shown)
    return ("yes", shown, tuple(sorted([(x, y) for _, y, x in found])))


def takes(s, t, paper):
    """Tells whether a paper settles whether each machine that keeps s keeps t."""
    check_two_demands(s, t)
    if not isinstance(paper, tuple):
        return False
    if len(paper) == 3 and paper[0] == "yes":
        return is_ladder(s, paper[1]) and _are_pairs(s, t, paper[1], paper[2])
    if len(paper) == 2 and paper[0] == "no":
        return is_keeper(paper[1], s) and not is_keeper(paper[1], t)
    return False


def equal(s, t):
    """Tells whether the same machines keep both demands."""
    check_two_demands(s, t)
    return least(s) == least(t)


def least(d):
    """Tells the trimmed demand with as few states as can be."""
    check_demand(d)
    return least_demand(d[0], d[1])


def _are_pairs(s, t, under, thing):
    """Tells whether a thing is a tuple of pairs that show it, if under is a ladder of s."""
    if not isinstance(thing, tuple):
        return False
    if not all([isinstance(pair, tuple) and len(pair) == 2 for pair in thing]):
        return False
    return are_triples(every_row(s[0]), s, t, under, tuple([(0, y, x) for x, y in thing]))
