"""Letters, sets of letters, and words."""

from spandrel.errors import BadLetters, BadSet, BadWord

MOST_LETTERS = 5
LONGEST_WORD = 200


def members(n, bits):
    """Tells the rising list of the letters of a set."""
    return [letter for letter in range(n) if (bits >> letter) & 1]


def bits_of(letters):
    """Tells the set of a list of letters, which may have equal ones."""
    bits = 0
    for letter in letters:
        bits |= 1 << letter
    return bits


def together(sets):
    """Tells the set of the letters that are in at least one of the given sets."""
    bits = 0
    for one in sets:
        bits |= one
    return bits


def full_set(n):
    """Tells the set of all letters, which is the largest of the sets."""
    return bits_of(list(range(n)))


def is_number(thing):
    """Tells whether a thing is a whole number."""
    # Python counts True and False among the integers; the document does not.
    return isinstance(thing, int) and not isinstance(thing, bool)


def is_below(thing, many):
    """Tells whether a thing is one of the whole numbers from 0 to many - 1."""
    return is_number(thing) and 0 <= thing < many


def is_letter_count(thing):
    """Tells whether a thing can be the number of letters."""
    return is_below(thing, MOST_LETTERS + 1)


def is_set(n, thing):
    """Tells whether a thing is a set of n letters."""
    return is_below(thing, full_set(n) + 1)


def is_word(n, thing):
    """Tells whether a thing is a word of n letters, of any length."""
    return isinstance(thing, tuple) and all([is_below(letter, n) for letter in thing])


def check_word(n, word):
    """Raises BadWord unless a thing is a word of n letters that may be handed in."""
    if not is_word(n, word) or len(word) > LONGEST_WORD:
        raise BadWord()


def check_set(n, bits):
    """Raises BadSet unless a thing is a set of n letters."""
    if not is_set(n, bits):
        raise BadSet()


def check_same_letters(a, b):
    """Raises BadLetters unless two machines or demands have the same number of letters."""
    if a[0] != b[0]:
        raise BadLetters()
