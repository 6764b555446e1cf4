"""Worths as values: objects for what a machine pays for every row, with operators."""

from laterless.errors import NoFactor, NoWorth
from laterless.lacks import led
from laterless.least import least_of, row_apart
from laterless.lefts import row_with
from laterless.machines import free_rule, is_between
from laterless.needs import need_match, need_rule, need_word
from laterless.numbers import is_number
from laterless.plains import after_word, greater_of, lesser_of, lifted, negated, scaled, summed
from laterless.rows import worth_of
from laterless.spans import apart, least_after, most_after

MOST_FACTOR = 20
MOST_ADDED = 10 ** 20


class Worth:
    """What a machine pays for every row; it keeps a plain machine that pays the same."""

    def __init__(self, machine):
        self._plain = led(machine)

    @property
    def base(self):
        """The base of the machine."""
        return self._plain[0]

    @property
    def letters(self):
        """The letters of the machine."""
        return self._plain[1]

    @property
    def states(self):
        """The number of states of the least machine that pays the same but for a first number."""
        return len(least_of(self._plain)[3])

    def plain(self):
        """Return the plain machine that is kept."""
        return self._plain

    def most(self, rule):
        """Return the greatest worth of all rows of the rule, and a row for it."""
        need_rule(rule, self._plain[1])
        return most_after(self._plain, rule, "")

    def least(self, rule):
        """Return the least worth of all rows of the rule, and a row for it."""
        need_rule(rule, self._plain[1])
        return least_after(self._plain, rule, "")

    def within(self, other):
        """Tell whether this worth is at most the other one's for every row."""
        return is_never_above(self._plain, matched(self, other))

    def below(self, other):
        """Tell whether this worth is at most the other one's for every row, and less for some row."""
        return is_never_above(self._plain, matched(self, other)) and not self == other

    def __call__(self, row):
        return worth_of(self._plain, row)

    def __contains__(self, x):
        return is_number(x) and row_with(self._plain, free_rule(self._plain[1]), x) is not None

    def __eq__(self, other):
        if not isinstance(other, Worth) or self._plain[:2] != other._plain[:2]:
            return False
        return row_apart(self._plain, other._plain) is None

    def __neg__(self):
        return Worth(negated(self._plain))

    def __add__(self, other):
        return Worth(added(self._plain, addend(self, other)))

    def __radd__(self, other):
        return Worth(added(self._plain, addend(self, other)))

    def __sub__(self, other):
        return Worth(added(self._plain, opposite(addend(self, other))))

    def __rsub__(self, other):
        return Worth(added(negated(self._plain), addend(self, other)))

    def __mul__(self, other):
        return Worth(scaled(self._plain, multiplier(other)))

    def __rmul__(self, other):
        return Worth(scaled(self._plain, multiplier(other)))

    def __or__(self, other):
        return Worth(greater_of(self._plain, matched(self, other)))

    def __and__(self, other):
        return Worth(lesser_of(self._plain, matched(self, other)))

    def __rshift__(self, other):
        return Worth(after_word(self._plain, word_for(self, other)))

    def __iadd__(self, other):
        self._plain = added(self._plain, addend(self, other))
        return self

    def __isub__(self, other):
        self._plain = added(self._plain, opposite(addend(self, other)))
        return self

    def __imul__(self, other):
        self._plain = scaled(self._plain, multiplier(other))
        return self

    def __ior__(self, other):
        self._plain = greater_of(self._plain, matched(self, other))
        return self

    def __iand__(self, other):
        self._plain = lesser_of(self._plain, matched(self, other))
        return self

    def __irshift__(self, other):
        self._plain = after_word(self._plain, word_for(self, other))
        return self


def machine_of(thing):
    """Return the plain machine that a worth keeps, and any other thing as it is."""
    return thing.plain() if isinstance(thing, Worth) else thing


def matched(worth, other):
    """Return the plain machine that other keeps, if it is a worth with the same base and letters."""
    if not isinstance(other, Worth):
        raise NoWorth("the right side is not a worth")
    need_match(worth._plain, other._plain)
    return other._plain


def addend(worth, other):
    """Return what is added to worth: the plain machine that other keeps, or other itself if it is an integer."""
    if isinstance(other, Worth):
        return matched(worth, other)
    if not is_between(other, -MOST_ADDED, MOST_ADDED):
        raise NoWorth("what is added is neither a worth nor an integer at most 10 ** 20 from 0")
    return other


def opposite(side):
    """Return the opposite of what is added, an integer or a plain machine."""
    return negated(side) if isinstance(side, tuple) else -side


def added(plain, side):
    """Return the plain machine that pays what plain does and an integer or a plain machine beside it."""
    return summed(plain, side) if isinstance(side, tuple) else lifted(plain, side)


def multiplier(thing):
    """Return thing if it is an integer that a worth can be multiplied by."""
    if not is_between(thing, -MOST_FACTOR, MOST_FACTOR):
        raise NoFactor("a worth is multiplied by integers from -20 to 20 alone")
    return thing


def word_for(worth, thing):
    """Return thing if it is a word of the letters of worth."""
    need_word(thing, worth._plain[1])
    return thing


def is_never_above(plain, other):
    """Tell whether the worth of plain is at most that of other for every row."""
    return apart(plain, other, free_rule(plain[1]))[0][0] <= 0
