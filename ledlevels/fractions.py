"""Fractions: tuples (n, d) of integers, d from 1 on, without a common divisor."""

from math import gcd

from ledlevels.errors import BadFraction
from ledlevels.order import in_order

ZERO = (0, 1)
ONE = (1, 1)


def is_number(value):
    """Return whether a value is an integer, and neither True nor False."""
    return isinstance(value, int) and not isinstance(value, bool)


def fraction(n, d):
    """Return the fraction that stands for n / d; BadFraction if there is none."""
    if not is_number(n) or not is_number(d) or d == 0:
        raise BadFraction()
    common = gcd(n, d)
    if d < 0:
        common = -common
    return (n // common, d // common)


def is_fraction(value):
    """Return whether a value is a fraction."""
    if not isinstance(value, tuple) or len(value) != 2:
        return False
    n, d = value
    return is_number(n) and is_number(d) and d > 0 and gcd(n, d) == 1


def plus(x, y):
    """Return the sum of two fractions."""
    # What the sum can be shortened by divides the common divisor of the two
    # lower numbers; to look there only is much quicker for great numbers.
    common = gcd(x[1], y[1])
    upper = x[0] * (y[1] // common) + y[0] * (x[1] // common)
    rest = gcd(upper, common)
    return (upper // rest, (x[1] // common) * (y[1] // rest))


def negative(x):
    """Return the fraction times -1."""
    return (-x[0], x[1])


def minus(x, y):
    """Return the first fraction less the second."""
    return plus(x, negative(y))


def times_of(x, y):
    """Return the product of two fractions."""
    one, other = gcd(x[0], y[1]), gcd(y[0], x[1])
    return ((x[0] // one) * (y[0] // other), (x[1] // other) * (y[1] // one))


def divided(x, y):
    """Return the first fraction divided by the second; BadFraction if this is 0."""
    return times_of(x, fraction(y[1], y[0]))


def is_less(x, y):
    """Return whether the first fraction stands for less than the second."""
    return x[0] * y[1] < y[0] * x[1]


def size_of(x):
    """Return the fraction, or 0 less it if it is below 0."""
    return (abs(x[0]), x[1])


def total(fractions):
    """Return the sum of all fractions of a list, 0 if it is empty."""
    # Neighbours are added, then neighbours of these sums: so the lower numbers
    # become great in the last few sums alone.
    parts = list(fractions)
    while len(parts) > 1:
        odd = parts[len(parts) - len(parts) % 2:]
        parts = [plus(parts[k], parts[k + 1]) for k in range(0, len(parts) - 1, 2)] + odd
    return parts[0] if parts else ZERO


def ascending(fractions):
    """Return the list of the fractions in ascending order, each once."""
    row = in_order(fractions, is_less)
    return [x for k, x in enumerate(row) if k == 0 or row[k - 1] != x]
