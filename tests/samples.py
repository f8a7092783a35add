"""Machines that several tests use, and things that are none."""


def ring(size):
    """One letter leads round and round."""
    return (1, tuple(((0, (state + 1) % size),) for state in range(size)))


def marked_ring(size, marks):
    """A ring of two letters: the letter 1 is offered only in the marked states."""
    rows = []
    for state in range(size):
        ahead = (state + 1) % size
        rows.append(((0, ahead), (1, ahead)) if state in marks else ((0, ahead),))
    return (2, tuple(rows))


def path(size):
    """One letter leads from each state to the one behind it, and from the last one nowhere."""
    return (1, tuple(((0, state + 1),) for state in range(size - 1)) + ((),))


def fan(size, steps):
    """From each state one letter leads to so many states, round and round."""
    rows = []
    for state in range(size):
        rows.append(tuple((0, to) for to in sorted((state + step) % size for step in range(steps))))
    return (1, tuple(rows))


def with_edges(many, rows=400):
    """A machine of so many rows with so many edges in all."""
    every = [(letter, to) for letter in range(5) for to in range(rows)]
    told = []
    for _ in range(rows):
        told.append(tuple(every[:many]))
        many -= len(told[-1])
    assert many == 0
    return (5, tuple(told))


def machines_of(n, rows):
    """All machines of so many letters and rows."""
    edges = [(letter, to) for letter in range(n) for to in range(rows)]
    choices = []
    for bits in range(2 ** len(edges)):
        choices.append(tuple(edge for at, edge in enumerate(edges) if (bits >> at) & 1))
    told = [()]
    for _ in range(rows):
        told = [before + (row,) for before in told for row in choices]
    return [(n, one) for one in told]


STILL = (0, ((),))
BRANCHING = (2, (((0, 0), (0, 1), (0, 2), (1, 2)), ((0, 2), (1, 0)), ()))

GOOD_MACHINES = {
    "one state without edges, 0 letters": STILL,
    "one state without edges, 1 letter": (1, ((),)),
    "one state without edges, 2 letters": (2, ((),)),
    "one state without edges, 3 letters": (3, ((),)),
    "one state without edges, 4 letters": (4, ((),)),
    "one state without edges, 5 letters": (5, ((),)),
    "several states, 0 letters": (0, ((), (), ())),
    "an edge to itself": (1, (((0, 0),),)),
    "all five letters": (5, (((0, 0), (1, 0), (2, 0), (3, 0), (4, 0)),)),
    "several edges of one letter": BRANCHING,
    "a state that is not reached": (1, ((), ((0, 0),))),
    "400 rows": path(400),
    "400 rows without edges": (3, ((),) * 400),
    "6000 edges": with_edges(6000),
    "6000 edges, 35 rows": with_edges(6000, 35),
}

BAD_MACHINES = {
    "401 rows": path(401),
    "6001 edges": with_edges(6001),
    "6001 edges, 35 rows": with_edges(6001, 35),
    "no rows": (1, ()),
    "n below 0": (-1, ((),)),
    "n above 5": (6, ((),)),
    "a huge n": (10 ** 30, ((),)),
    "a letter that is not there": (2, (((2, 0),),)),
    "a letter of none": (0, (((0, 0),),)),
    "a letter below 0": (2, (((-1, 0),),)),
    "a state that is not there": (2, (((0, 1),),)),
    "a state below 0": (2, (((0, -1),),)),
    "a state that is not there, later": (2, ((), ((0, 0), (0, 2)))),
    "letters out of order": (2, (((1, 0), (0, 0)),)),
    "letters out of order, states rising": (2, (((1, 0), (0, 1)), ())),
    "states out of order": (2, (((0, 1), (0, 0)), ())),
    "an edge twice": (2, (((0, 0), (0, 0)),)),
    "an edge twice, later": (2, ((), ((0, 0), (1, 1), (1, 1)))),
    "an edge of one number": (2, (((0,),),)),
    "an edge of three numbers": (2, (((0, 0, 0),),)),
    "an edge of nothing": (2, (((),),)),
    "an edge that is a number": (2, ((0,),)),
    "an edge that is a text": (2, (("00",),)),
    "an edge that is None": (2, ((None,),)),
    "an edge that is True": (2, ((True,),)),
    "a row that is a number": (2, (0,)),
    "a row that is a text": (2, ("",)),
    "a row that is a longer text": (2, ("00",)),
    "a row that is None": (2, (None,)),
    "a row that is False": (2, (False,)),
    "a row that is none, later": (2, ((), ((0, 0),), None)),
    "rows that are a number": (2, 1),
    "rows that are a text": (2, "0"),
    "rows that are None": (2, None),
    "rows that are True": (2, True),
    "a pair of one": (2,),
    "a pair of three": (2, ((),), 0),
    "the pair the other way round": (((),), 2),
    "an empty tuple": (),
    "rows alone": ((),),
    "n True": (True, ((),)),
    "n False": (False, ((),)),
    "n a text": ("1", ((),)),
    "n None": (None, ((),)),
    "n a tuple": ((), ((),)),
    "a letter True": (2, (((True, 0),),)),
    "a letter False": (2, (((False, 0),),)),
    "a letter a text": (2, (((0, 0), ("b", 0)),)),
    "a letter None": (2, (((None, 0),),)),
    "a letter a tuple": (2, ((((), 0),),)),
    "a state True": (2, (((0, True),), ())),
    "a state False": (2, (((0, False),),)),
    "a state a text": (2, (((0, 0), (0, "1")), ())),
    "a state None": (2, (((0, None),),)),
    "a state a tuple": (2, (((0, (0,)),),)),
    "a text": "machine 1",
    "a text of two": "10",
    "an empty text": "",
    "None": None,
    "True": True,
    "False": False,
    "a number": 1,
}

NO_NUMBERS = (True, False, None, "", "0", "a", (), (0,))
