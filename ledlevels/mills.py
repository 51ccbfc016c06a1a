"""Rates of turns, and mills: turns with weather."""

from ledlevels.errors import TooMany
from ledlevels.rows import is_row

MOST_CHOICES = 64


def is_rates(value, many):
    """Return whether a value is rates for so many levels."""
    if not isinstance(value, (list, tuple)) or len(value) == 0:
        return False
    return all([is_row(rate, many) for rate in value])


def is_turn(value, many):
    """Return whether a value is a turn with weather for so many levels: a tuple of corners."""
    if not isinstance(value, tuple) or not is_rates(value, many):
        return False
    return len(set(value)) == len(value)


def is_mill(value, many):
    """Return whether a value is a mill for so many levels."""
    if not isinstance(value, (list, tuple)) or len(value) == 0:
        return False
    return all([is_turn(turn, many) for turn in value])


def choices(mill):
    """Return the ascending list of all choices of the mill; TooMany if there are more than 64."""
    many = 1
    for turn in mill:
        many = many * len(turn)
    if many > MOST_CHOICES:
        raise TooMany()
    told = [()]
    for turn in mill:
        told = [choice + (k,) for choice in told for k in range(len(turn))]
    return told


def rates_of(mill, choice):
    """Return the list of the chosen corners, one for each turn."""
    return [turn[k] for turn, k in zip(mill, choice)]


def still(rates):
    """Return the mill with one corner for each turn, its rate."""
    return [(rate,) for rate in rates]
