"""The least demand of what is told by states of any number."""

from spandrel.blocks import blocks_of
from spandrel.demand import MOST_DEMAND_STATES
from spandrel.errors import TooMuch
from spandrel.letters import MOST_LETTERS, bits_of
from spandrel.numbering import found_only
from spandrel.trimming import trimmed_states


def least_demand(n, states):
    """Tells the least demand; TooMuch if it has more states than a demand may have."""
    left = trimmed_states(n, states)
    block = blocks_of([_edges(at, state) for at, state in enumerate(left)])
    if len(set(block)) > MOST_DEMAND_STATES:
        raise TooMuch()
    first = {}
    for at, name in enumerate(block):
        first.setdefault(name, at)
    merged = []
    for accepts, ahead in left:
        merged.append((accepts, tuple([to if to == -1 else first[block[to]] for to in ahead])))
    return (n, found_only(merged))


def _edges(at, state):
    """Tells the edges of a state for blocks_of."""
    accepts, ahead = state
    # What a state accepts stands there as one more edge, since states that accept other sets are
    # not alike. Its number is none of a letter, and it leads to the state itself.
    mark = (MOST_LETTERS + bits_of(accepts), at)
    return [(letter, to) for letter, to in enumerate(ahead) if to != -1] + [mark]
