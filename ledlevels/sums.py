"""What the judges look at: amounts, the sums that they make of columns, and slopes."""

from ledlevels.fractions import ZERO, is_less, times_of, total
from ledlevels.rows import is_row, product


def is_worded(value, word, many):
    """Return whether a value is a tuple of this word and so many other parts."""
    return isinstance(value, tuple) and len(value) == many + 1 and value[0] == word


def is_told(value, word, lengths):
    """Return whether a value is a tuple of this word and tuples of so many fractions each."""
    if not is_worded(value, word, len(lengths)):
        return False
    return all([is_row(part, many) for part, many in zip(value[1:], lengths)])


def first_below(amounts):
    """Return the least number of an amount below 0, None if there is none."""
    for k, amount in enumerate(amounts):
        if is_less(amount, ZERO):
            return k
    return None


def level_sum(columns, amounts, level):
    """Return the sum of the columns times their amounts at one level."""
    return total([times_of(column[level], amount) for column, amount in zip(columns, amounts)])


def first_off(columns, amounts, target):
    """Return the least level at which the amounts' sum is not target, None if they reach it."""
    for level, goal in enumerate(target):
        if level_sum(columns, amounts, level) != goal:
            return level
    return None


def reaching_fault(columns, target, amounts):
    """Return the first fault of amounts that should reach target and be from 0 on, else None."""
    below = first_below(amounts)
    if below is not None:
        return ("below", below)
    level = first_off(columns, amounts, target)
    if level is not None:
        return ("sum", level)
    return None


def first_falling(columns, slope):
    """Return the least number of a column whose product with the slope is below 0, or None."""
    for k, column in enumerate(columns):
        if is_less(product(slope, column), ZERO):
            return k
    return None
