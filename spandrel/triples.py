"""The triples by which a machine beside all that keep a demand s keeps a demand t.

A triple (p, q, r) is a state of the machine, of t and of s, to which one word leads.
"""

from spandrel.doing import machine_doing
from spandrel.errors import TooMuch
from spandrel.hollow import ladder, trimmed
from spandrel.keeping import word_of
from spandrel.letters import is_below, together
from spandrel.machine import offered
from spandrel.trimming import standing_sets

MOST_TRIPLES = 20000


def every_row(n):
    """Tells the rows of the machine that offers every letter: beside it, each machine does what it does alone."""
    return (tuple([(letter, 0) for letter in range(n)]),)


def find_triples(rows, s, t):
    """Tells ("yes", a ladder of s, the list of the triples), or ("no", a machine that keeps s, a word).

    The word is that of a fault of the product of both machines under t.
    """
    under = ladder(s)
    if 0 in under:
        return ("yes", under, [])
    standing = _standing(s, under)
    sets = [offered(row) for row in rows]
    triples = [(0, 0, 0)]
    came = [(-1, -1)]
    seen = {(0, 0, 0): True}
    at = 0
    while at < len(triples):
        here = triples[at]
        p, q, r = here
        wrong = [bits for bits in standing[r] if (bits & sets[p]) not in t[1][q][0]]
        if wrong:
            word = word_of(came, at)
            return ("no", machine_doing(trimmed(s), word, wrong[0]), word)
        for letter, triple in _behind(rows, s, t, standing, here):
            if triple not in seen:
                seen[triple] = True
                triples.append(triple)
                came.append((at, letter))
        if len(triples) > MOST_TRIPLES:
            raise TooMuch()
        at += 1
    return ("yes", under, triples)


def are_triples(rows, s, t, under, thing):
    """Tells whether a thing is a tuple of triples that show it, if under is a ladder of s."""
    if not isinstance(thing, tuple):
        return False
    if not all([_is_triple(len(rows), len(t[1]), len(s[1]), triple) for triple in thing]):
        return False
    told = {triple: True for triple in thing}
    if 0 not in under and (0, 0, 0) not in told:
        return False
    standing = _standing(s, under)
    sets = [offered(row) for row in rows]
    for p, q, r in told:
        if r in under or not all([(bits & sets[p]) in t[1][q][0] for bits in standing[r]]):
            return False
        if not all([triple in told for _, triple in _behind(rows, s, t, standing, (p, q, r))]):
            return False
    return True


def _standing(s, under):
    """Tells for each state of s the list of its sets that do not fall under the given states."""
    rungs_below = {at: True for at in under}
    return [standing_sets(state, rungs_below) for state in s[1]]


def _behind(rows, s, t, standing, triple):
    """Tells the list of the letters that all three do from a triple, with the triples to which they lead."""
    p, q, r = triple
    given = together(standing[r])
    ahead_t, ahead_s = t[1][q][1], s[1][r][1]
    return [(letter, (to, ahead_t[letter], ahead_s[letter])) for letter, to in rows[p] if (given >> letter) & 1]


def _is_triple(many, also, further, thing):
    """Tells whether a thing is a triple of numbers of states, of which there are so many."""
    if not isinstance(thing, tuple) or len(thing) != 3:
        return False
    return is_below(thing[0], many) and is_below(thing[1], also) and is_below(thing[2], further)
