"""Machines and demands as texts, and texts read back."""

from spandrel.demand import check_demand
from spandrel.errors import BadDemand, BadMachine, BadText
from spandrel.letters import bits_of, members
from spandrel.machine import check_machine

LETTERS = "abcde"
DIGITS = "0123456789"
LONGEST_NUMBER = 3


def written_machine(m):
    """Tells the text of a machine."""
    check_machine(m)
    lines = [f"machine {m[0]}"]
    for at, row in enumerate(m[1]):
        lines.append(" ".join([f"{at}:"] + [f"{LETTERS[letter]}{to}" for letter, to in row]))
    return "\n".join(lines)


def written_demand(d):
    """Tells the text of a demand."""
    check_demand(d)
    n, states = d
    lines = [f"demand {n}"]
    for at, (accepts, ahead) in enumerate(states):
        sets = [_written_set(n, bits) for bits in accepts]
        ends = [f"{LETTERS[letter]}{to}" for letter, to in enumerate(ahead) if to != -1]
        lines.append(" ".join([f"{at}:"] + sets + ["|"] + ends))
    return "\n".join(lines)


def read_machine(text):
    """Tells the machine of a text."""
    n, lines = _head_and_lines("machine", text)
    m = (n, tuple([tuple([_edge_of(word) for word in line.split(" ")[1:]]) for line in lines]))
    # What is read loosely here comes back as another text, if its form was not just the right one.
    try:
        again = written_machine(m)
    except BadMachine:
        raise BadText() from None
    if again != text:
        raise BadText()
    return m


def read_demand(text):
    """Tells the demand of a text."""
    n, lines = _head_and_lines("demand", text)
    d = (n, tuple([_state_of(n, line.split(" ")[1:]) for line in lines]))
    # As for machines: any other form comes back as another text.
    try:
        again = written_demand(d)
    except BadDemand:
        raise BadText() from None
    if again != text:
        raise BadText()
    return d


def _written_set(n, bits):
    """Tells the text of a set."""
    return "{" + "".join([LETTERS[letter] for letter in members(n, bits)]) + "}"


def _head_and_lines(kind, text):
    """Tells the number of letters, and the lines of the states."""
    if not isinstance(text, str):
        raise BadText()
    lines = text.split("\n")
    words = lines[0].split(" ")
    if len(words) != 2 or words[0] != kind:
        raise BadText()
    return (_number_of(words[1]), lines[1:])


def _state_of(n, words):
    """Tells the state of a demand whose sets and ends are the given words."""
    if "|" not in words:
        raise BadText()
    bar = words.index("|")
    ends = [-1] * n
    for word in words[bar + 1:]:
        letter, to = _edge_of(word)
        if letter >= n:
            raise BadText()
        ends[letter] = to
    return (tuple([_set_of(word) for word in words[:bar]]), tuple(ends))


def _set_of(word):
    """Tells the set of letters between brackets."""
    return bits_of([_letter_of(sign) for sign in word[1:-1]])


def _edge_of(word):
    """Tells the letter and the number that a word puts together."""
    return (_letter_of(word[:1]), _number_of(word[1:]))


def _letter_of(sign):
    """Tells the letter that a sign stands for."""
    if sign == "" or sign not in LETTERS:
        raise BadText()
    return LETTERS.index(sign)


def _number_of(figures):
    """Tells the number that a text of figures stands for."""
    # No number here has more figures than those of the states; Python itself stops at some thousands.
    if figures == "" or len(figures) > LONGEST_NUMBER:
        raise BadText()
    if not all([figure in DIGITS for figure in figures]):
        raise BadText()
    return int(figures)
