"""Rows: tuples of fractions, one for each level."""

from ledlevels.fractions import ZERO, is_fraction, is_less, minus, negative, plus, size_of, times_of, total

MOST_LEVELS = 4


def is_row(value, many):
    """Return whether a value is a row of so many fractions."""
    return isinstance(value, tuple) and len(value) == many and all([is_fraction(x) for x in value])


def is_any_row(value):
    """Return whether a value is a row of one to four fractions."""
    return any([is_row(value, many) for many in range(1, MOST_LEVELS + 1)])


def added(one, other):
    """Return the row of the sums, level by level."""
    return tuple([plus(x, y) for x, y in zip(one, other)])


def taken(one, other):
    """Return the first row less the second, level by level."""
    return tuple([minus(x, y) for x, y in zip(one, other)])


def scaled(row, x):
    """Return the row times a fraction, level by level."""
    return tuple([times_of(y, x) for y in row])


def back(row):
    """Return the row times -1."""
    return tuple([negative(x) for x in row])


def nought(many):
    """Return the row of so many times 0."""
    return (ZERO,) * many


def product(one, other):
    """Return the sum of the products of two rows, level by level."""
    return total([times_of(x, y) for x, y in zip(one, other)])


def sizes(row):
    """Return the sum of the sizes of all fractions of a row."""
    return total([size_of(x) for x in row])


def is_row_ahead(one, other):
    """Return whether the first of two rows comes ahead of the other as rows ascend."""
    for x, y in zip(one, other):
        if x != y:
            return is_less(x, y)
    return False
