"""The errors of the package: one class for each kind of failure."""


class LaterError(ValueError):
    """Any failure that this package raises."""


class NoMachine(LaterError):
    """Neither a machine nor, where one may stand, a plain machine."""


class NoPlain(LaterError):
    """No plain machine."""


class NoLetters(LaterError):
    """No letters: no string of 1 to 3 ascending letters from a to z."""


class NoRule(LaterError):
    """No rule, or one for other letters."""


class NoRow(LaterError):
    """No row, or one of other letters."""


class NoWord(LaterError):
    """No word, or one of other letters, or one that is too long."""


class NoNumber(LaterError):
    """No number, or no integer where one makes a number."""


class NoDivisor(LaterError):
    """No integer from 1 on to divide by."""


class NoArena(LaterError):
    """No arena."""


class NoState(LaterError):
    """No number of a state."""


class NoMatch(LaterError):
    """Two things that need the same base and letters and have others."""


class NoFactor(LaterError):
    """No integer that a worth can be multiplied by."""


class NoWorth(LaterError):
    """No worth where one has to stand."""


class NoLetter(LaterError):
    """No letter, or one that the rule does not allow there."""


class NoUndo(LaterError):
    """No letter is left that could be taken back."""


class NoThings(LaterError):
    """No list of strings and such lists, or one that is nested too deep."""


class NoRunner(LaterError):
    """Neither a walk nor a race."""


class NoLimit(LaterError):
    """No integer from 1 to the greatest limit."""


class HasRow(LaterError):
    """There is a row where none was to be."""


class TooGreat(LaterError):
    """An answer, or what leads to it, goes beyond a limit."""
