"""Demands that several tests use, things that are none, and machines and demands mixed by fixed numbers."""


def every_set(n):
    return tuple(range(2 ** n))


def chain(size):
    """Each state leads by its only set to the one behind it; the last one accepts nothing."""
    return (1, tuple(((1,), (at + 1,)) for at in range(size - 1)) + (((), (-1,)),))


def circle(size, strict):
    """For marked rings: the offer of both letters is accepted anywhere but in the strict states."""
    states = []
    for at in range(size):
        states.append(((1,) if at in strict else (1, 3), ((at + 1) % size,) * 2))
    return (2, tuple(states))


def wide(n, many, left_out):
    """So many states that accept every set but one, and lead round and round."""
    accepts = tuple(bits for bits in every_set(n) if bits != left_out)
    return (n, tuple((accepts, tuple((at + letter + 1) % many for letter in range(n))) for at in range(many)))


def mixed_demand(numbers, n, many, chance):
    """A demand of so many states, in which each set is accepted with a chance in a hundred."""
    states = []
    for _ in range(many):
        accepts = tuple(bits for bits in every_set(n) if numbers.randrange(100) < chance)
        ahead = []
        for letter in range(n):
            needed = any((bits >> letter) & 1 for bits in accepts)
            ahead.append(numbers.randrange(0 if needed else -1, many))
        states.append((accepts, tuple(ahead)))
    return (n, tuple(states))


def mixed_machine(numbers, n, many, edges):
    """A machine of so many states and at most so many edges."""
    rows = [set() for _ in range(many)]
    for _ in range(edges if n else 0):
        rows[numbers.randrange(many)].add((numbers.randrange(n), numbers.randrange(many)))
    return (n, tuple(tuple(sorted(row)) for row in rows))


# 0 accepts no letter, the letter 0, or both; 1 accepts just the letter 1; no set leads to 2.
SAMPLE = (2, (((0, 1, 3), (1, 0)), ((2,), (-1, 0)), ((), (-1, 1))))

GOOD_DEMANDS = {
    "a sample": SAMPLE,
    "a state that accepts nothing": (2, (((), (-1, -1)),)),
    "a state that accepts the empty set alone": (2, (((0,), (-1, -1)),)),
    "next to states for letters in no accepted set": (2, (((0,), (0, 1)), ((), (1, 0)))),
    "next to a state for one letter in no accepted set": (2, (((0, 2), (0, 0)),)),
    "no letters, nothing accepted": (0, (((), ()),)),
    "no letters, the empty set accepted": (0, (((0,), ()),)),
    "no letters, several states": (0, (((), ()), ((0,), ()), ((), ()))),
    "40 states": chain(40),
    "40 states of no letters": (0, (((0,), ()),) * 40),
    "40 states, all sets": (5, ((every_set(5), (39, 0, 1, 2, 38)),) * 40),
}
for _n in range(6):
    GOOD_DEMANDS[f"all sets of {_n} letters"] = (_n, ((every_set(_n), (0,) * _n),))
    GOOD_DEMANDS[f"nothing of {_n} letters"] = (_n, (((), (-1,) * _n),))

BAD_DEMANDS = {
    "41 states": chain(41),
    "41 states of no letters": (0, (((0,), ()),) * 41),
    "400 states": chain(400),
    "no states": (1, ()),
    "no states, no letters": (0, ()),
    "n below 0": (-1, (((), ()),)),
    "n above 5": (6, (((), (-1,) * 6),)),
    "a huge n": (10 ** 30, (((), ()),)),
    "sets out of order": (2, (((1, 0), (0, 0)),)),
    "sets out of order, later": (2, (((0, 3, 2), (0, 0)),)),
    "a set twice": (2, (((1, 1), (0, 0)),)),
    "the empty set twice": (0, (((0, 0), ()),)),
    "a set below 0": (2, (((-1,), (0, 0)),)),
    "a set below 0, first": (2, (((-1, 0), (0, 0)),)),
    "the set 2**n": (2, (((4,), (0, 0)),)),
    "the set 2**n, last": (2, (((0, 1, 4), (0, 0)),)),
    "the set 1 of no letters": (0, (((1,), ()),)),
    "the set 32 of five letters": (5, (((31, 32), (0,) * 5),)),
    "a huge set": (2, (((10 ** 30,), (0, 0)),)),
    "next too short": (2, (((0,), (0,)),)),
    "next too short, a set of the letter": (2, (((2,), (0,)),)),
    "next too long": (2, (((0,), (0, 0, 0)),)),
    "next too long, -1": (2, (((0,), (0, 0, -1)),)),
    "next empty": (2, (((0,), ()),)),
    "next of no letters": (0, (((0,), (0,)),)),
    "next no state": (2, (((1,), (1, 0)),)),
    "next no state, letter in no set": (2, (((1,), (0, 1)),)),
    "next -2": (2, (((0,), (-2, 0)),)),
    "next a huge number": (2, (((1,), (10 ** 30, 0)),)),
    "next -1 for a letter of a set": (2, (((1,), (-1, 0)),)),
    "next -1 for a letter of a later set": (2, (((0, 1, 3), (0, -1)),)),
    "next -1 for a letter of a set, later state": (2, (((0,), (0, 0)), ((2,), (0, -1)))),
    "a state of one": (2, (((0,),),)),
    "a state of three": (2, (((0,), (0, 0), 0),)),
    "a state the other way round": (2, (((0, 0), (0,)),)),
    "an empty state": (2, ((),)),
    "a state that is a number": (2, (0,)),
    "a state that is a text": (2, ("ab",)),
    "a state that is None": (2, (None,)),
    "a state that is True": (2, (True,)),
    "a state that is none, later": (2, (((0,), (0, 0)), None)),
    "accepts a number": (2, ((0, (0, 0)),)),
    "accepts a text": (2, (("", (0, 0)),)),
    "accepts None": (2, ((None, (0, 0)),)),
    "accepts False": (2, ((False, (0, 0)),)),
    "next a number": (1, (((0,), 0),)),
    "next a text": (1, (((0,), "0"),)),
    "next an empty text": (0, (((0,), ""),)),
    "next None": (0, (((0,), None),)),
    "next False": (0, (((0,), False),)),
    "states a number": (2, 1),
    "states a text": (2, "0"),
    "states None": (2, None),
    "states True": (2, True),
    "a demand of one": (2,),
    "a demand of three": (2, (((0,), (0, 0)),), 0),
    "a demand the other way round": ((((0,), (0, 0)),), 2),
    "an empty tuple": (),
    "states alone": (((0,), (0, 0)),),
    "n True": (True, (((1,), (0,)),)),
    "n False": (False, (((0,), ()),)),
    "n a text": ("1", (((1,), (0,)),)),
    "n None": (None, (((1,), (0,)),)),
    "n a tuple": ((), (((1,), (0,)),)),
    "a set True": (2, (((True,), (0, 0)),)),
    "a set False": (2, (((False, 1), (0, 0)),)),
    "a set a text": (2, ((("0",), (0, 0)),)),
    "a set None": (2, (((None,), (0, 0)),)),
    "a set a tuple": (2, (((0, (0, 1)), (0, 0)),)),
    "next True": (2, (((0,), (True, 0)), ((0,), (0, 0)))),
    "next False, letter of a set": (2, (((1,), (False, 0)),)),
    "next False, letter in no set": (2, (((1,), (0, False)),)),
    "one next a text": (2, (((0,), ("0", 0)),)),
    "one next None": (2, (((0,), (None, 0)),)),
    "one next a tuple": (2, (((0,), ((0,), 0)),)),
    "a text": "demand 1",
    "a text of two": "10",
    "an empty text": "",
    "None": None,
    "True": True,
    "False": False,
    "a number": 1,
}
