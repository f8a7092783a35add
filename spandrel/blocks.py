"""Which states of a table of edges are alike.

All states begin in one block. A block is parted as long as two of its states lead by
one letter to different blocks. This stays quick where looking at all pairs of states
would not: two rings of 399 and 400 states have 159600 pairs that are reached.
"""


def blocks_of(rows):
    """Tells the list of the numbers of the blocks: alike states, and only these, have the same one."""
    block = [0] * len(rows)
    held = [list(range(len(rows)))]
    before = _states_before(rows)
    waiting = {state: True for state in held[0]}
    while waiting:
        moved = []
        parted = _parted(rows, block, held, waiting)
        for name, parts in parted:
            # The largest part keeps the old number, so that each state moves only a few times.
            held[name] = parts[-1]
            for part in parts[:-1]:
                for state in part:
                    block[state] = len(held)
                held.append(part)
                moved.extend(part)
        # Only what leads to a moved state can have become different from its block.
        waiting = {state: True for to in moved for state in before[to]}
    return block


def _states_before(rows):
    """Tells for each state the list of the states that have an edge to it."""
    before = [[] for row in rows]
    for state, row in enumerate(rows):
        for edge in row:
            before[edge[1]].append(state)
    return before


def _parted(rows, block, held, waiting):
    """Tells the blocks of the waiting states, each with its parts, before any state moves."""
    names = sorted({block[state] for state in waiting})
    return [(name, _parts(rows, block, held[name], waiting)) for name in names]


def _parts(rows, block, states, waiting):
    """Tells the lists of those states of a block that lead to the same blocks, the largest one last."""
    groups = {}
    for state in states:
        # Those that do not wait lead where they led before, so they stay together.
        leads = _leads(rows[state], block) if state in waiting else None
        groups.setdefault(leads, []).append(state)
    return sorted(list(groups.values()), key=len)


def _leads(row, block):
    """Tells the letters of a state's edges with the blocks to which they lead."""
    return tuple(sorted({(letter, block[to]) for letter, to in row}))
