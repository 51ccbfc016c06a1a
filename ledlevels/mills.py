"""Rates of turns, and mills: turns with weather."""

from ledlevels.errors import TooMany
from ledlevels.fractions import is_number
from ledlevels.rows import is_row

MOST_CHOICES = 64


def is_rates(value, many):
    """Return whether a value is rates for so many levels."""
    if not isinstance(value, (list, tuple)) or len(value) == 0:
        return False
    return all([is_row(rate, many) for rate in value])


def is_turn(value, many):
    """Return whether a value is a turn with weather for so many levels: a tuple of corners."""
    if not isinstance(value, tuple) or not is_rates(value, many):
        return False
    return len(set(value)) == len(value)


def is_mill(value, many):
    """Return whether a value is a mill for so many levels."""
    if not isinstance(value, (list, tuple)) or len(value) == 0:
        return False
    return all([is_turn(turn, many) for turn in value])


def how_many_choices(mill):
    """Return the number of choices of the mill, 1 if it has no turn."""
    many = 1
    for turn in mill:
        many = many * len(turn)
    return many


def all_choices(mill):
    """Return the ascending list of all choices of the mill, however many there are."""
    told = [()]
    for turn in mill:
        told = [choice + (k,) for choice in told for k in range(len(turn))]
    return told


def choices(mill):
    """Return the ascending list of all choices of the mill; TooMany if there are more than 64."""
    if how_many_choices(mill) > MOST_CHOICES:
        raise TooMany()
    return all_choices(mill)


def is_choice(value, mill):
    """Return whether a value is a choice of the mill."""
    if not isinstance(value, tuple) or len(value) != len(mill):
        return False
    return all([is_number(k) and 0 <= k < len(turn) for k, turn in zip(value, mill)])


def rates_of(mill, choice):
    """Return the list of the chosen corners, one for each turn."""
    return [turn[k] for turn, k in zip(mill, choice)]


def still(rates):
    """Return the mill with one corner for each turn, its rate."""
    return [(rate,) for rate in rates]
