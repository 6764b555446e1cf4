"""Numbers: exact fractions as tuples (n, d) of integers without a common divisor."""

from math import gcd

from laterless.errors import NoDivisor, NoNumber


def number_of(n, d):
    """Return the number n / d."""
    if not is_whole(n):
        raise NoNumber("n is not an integer")
    if not is_whole(d) or d < 1:
        raise NoDivisor("d is not an integer from 1 on")
    return lowest(n, d)


def plus(a, b):
    """Return the number a + b."""
    need_number(a, "a")
    need_number(b, "b")
    return lowest(a[0] * b[1] + b[0] * a[1], a[1] * b[1])


def minus(a, b):
    """Return the number a - b."""
    need_number(a, "a")
    need_number(b, "b")
    return difference(a, b)


def compared(a, b):
    """Return -1, 0 or 1, as a is below b, equal to it, or above it."""
    need_number(a, "a")
    need_number(b, "b")
    left, right = a[0] * b[1], b[0] * a[1]
    if left == right:
        return 0
    return -1 if left < right else 1


def is_whole(thing):
    """Tell whether thing is an integer."""
    # isinstance would take True and False for integers.
    return type(thing) == int


def is_number(thing):
    """Tell whether thing is a number."""
    if type(thing) != tuple or len(thing) != 2:
        return False
    n, d = thing
    return is_whole(n) and is_whole(d) and d > 0 and gcd(n, d) == 1


def need_number(thing, name):
    """Raise NoNumber if thing, the argument of this name, is no number."""
    # The value is not shown: Python does not write out integers of great size.
    if not is_number(thing):
        raise NoNumber(f"{name} is not a number")


def lowest(n, d):
    """Return n / d, d from 1 on, without a common divisor."""
    common = gcd(n, d)
    return (n // common, d // common)


def difference(a, b):
    """Return the number a - b, for what surely are numbers."""
    return lowest(a[0] * b[1] - b[0] * a[1], a[1] * b[1])


def negative(a):
    """Return the number -a."""
    return (-a[0], a[1])


def is_above(a, b):
    """Tell whether the number a is above the number b."""
    return a[0] * b[1] > b[0] * a[1]


def power(base, many):
    """Return base ** many, many from 0 on."""
    found = 1
    for place in reversed(range(many.bit_length())):
        found = found * found
        if many >> place & 1 == 1:
            found = found * base
    return found
