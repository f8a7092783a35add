"""The errors that the package raises, one for each kind of failure."""


class SpandrelError(ValueError):
    """What every error of the package is."""


class BadMachine(SpandrelError):
    """What was given as a machine is none."""


class BadDemand(SpandrelError):
    """What was given as a demand is none."""


class BadLetters(SpandrelError):
    """Two things that belong together have not the same number of letters."""


class BadWord(SpandrelError):
    """What was given as a word is none, or is too long."""


class BadSet(SpandrelError):
    """What was given as a set of letters is none."""


class BadState(SpandrelError):
    """What was given as a state is none."""


class BadText(SpandrelError):
    """A text is not that of a machine or demand."""


class TooMuch(SpandrelError):
    """An answer would be larger than the bounds allow."""
