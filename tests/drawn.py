"""Demands and machines drawn by fixed numbers, for sentences about all demands and machines."""

import functools
import itertools

from spandrel.hollow import trimmed
from tests.demands import every_set, mixed_demand, mixed_machine
from tests.samples import machines_of


def letters_of(n, bits):
    return [letter for letter in range(n) if (bits >> letter) & 1]


def sets_offered(machine, states):
    """The sets that the given states offer; each set is the sum of 2**letter over its letters."""
    return {sum(2 ** letter for letter in {letter for letter, _ in machine[1][state]}) for state in states}


def words(n, longest):
    """All words up to a length, in their order."""
    for length in range(longest + 1):
        yield from itertools.product(range(n), repeat=length)


@functools.lru_cache(maxsize=None)
def state_after(d, word):
    """The state of the trimmed demand to which a word leads, or None."""
    states = trimmed(d)[1]
    if not word:
        return states[0]
    before = state_after(d, word[:-1])
    to = before[1][word[-1]] if before else -1
    return states[to] if to != -1 else None


def sets_behind(d, word):
    """The sets that machines that keep a demand can come to offer by a word."""
    state = state_after(d, word)
    return set(state[0]) if state else set()


def keeper(numbers, d, copies=2):
    """A machine that keeps a demand, or None: each state several times, with sets and edges as they fall."""
    n, states = trimmed(d)
    if not states[0][0]:
        return None
    rows = []
    for accepts, ahead in states:
        for _ in range(copies):
            row = []
            for letter in letters_of(n, numbers.choice(accepts)):
                ends = numbers.sample(range(copies), numbers.randint(1, copies))
                row += [(letter, ahead[letter] * copies + end) for end in sorted(ends)]
            rows.append(tuple(row))
    return (n, tuple(rows))


def rewritten(numbers, d):
    """Another writing of a demand: states twice, in another order, with sets that fall and letters without a set."""
    n, states = d
    keys = [(at, copy) for at in range(len(states)) for copy in range(numbers.randint(1, 2))][1:] + [(-1, 0)]
    numbers.shuffle(keys)
    keys = [(0, 0)] + keys
    trap = keys.index((-1, 0))
    copies = {at: [place for place, key in enumerate(keys) if key[0] == at] for at in range(len(states))}
    told = []
    for at, _ in keys:
        if at == -1:
            told.append(((), tuple(numbers.randrange(-1, len(keys)) for _ in range(n))))
            continue
        accepts, ahead = states[at]
        used = set().union(*(letters_of(n, bits) for bits in accepts))
        free = [letter for letter in range(n) if letter not in used]
        falling = set()
        ends = []
        for letter in range(n):
            if letter in used:
                ends.append(numbers.choice(copies[ahead[letter]]))
            else:
                ends.append(numbers.randrange(-1, len(keys)))
        if free and numbers.random() < 0.7:
            letter = numbers.choice(free)
            ends[letter] = trap
            falling = {bits for bits in every_set(n) if (bits >> letter) & 1
                       and all(ends[other] != -1 for other in letters_of(n, bits)) and numbers.random() < 0.5}
        told.append((tuple(sorted(set(accepts) | falling)), tuple(ends)))
    return (n, tuple(told))


def loosened(numbers, d):
    """A demand that accepts some sets more: the given one refines it."""
    n, states = d
    told = []
    for accepts, ahead in states:
        fitting = [bits for bits in every_set(n) if all(ahead[letter] != -1 for letter in letters_of(n, bits))]
        more = [bits for bits in fitting if numbers.random() < 0.3]
        told.append((tuple(sorted(set(accepts) | set(more))), ahead))
    return (n, tuple(told))


def tightened(numbers, d):
    """A demand that accepts some sets less: it refines the given one."""
    n, states = d
    told = []
    for accepts, ahead in states:
        told.append((tuple(bits for bits in accepts if numbers.random() < 0.8), ahead))
    return (n, tuple(told))


def drawn_demand(numbers, n, most=4):
    return mixed_demand(numbers, n, numbers.randint(1, most), numbers.randrange(20, 95))


def drawn_machine(numbers, n, most=4):
    return mixed_machine(numbers, n, numbers.randint(1, most), numbers.randrange(3 * most))


def drawn_pair(numbers, n, most=4):
    """Two demands with so many letters: often one of them is made from the other."""
    first = drawn_demand(numbers, n, most)
    change = numbers.choice((rewritten, loosened, tightened, None))
    second = change(numbers, first) if change else drawn_demand(numbers, n, most)
    return (first, second) if numbers.random() < 0.7 else (second, first)


# All machines of few rows; of two letters those of one row, and a part of those of two.
SMALL_MACHINES = {0: machines_of(0, 2), 1: machines_of(1, 1) + machines_of(1, 2),
                  2: machines_of(2, 1) + machines_of(2, 2)[::5], 3: machines_of(3, 1)}
