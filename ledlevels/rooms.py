"""Rooms, their places and their walls."""

from ledlevels.fractions import ZERO, ascending, is_fraction, is_less, is_number
from ledlevels.fractions import minus, plus, size_of, times_of
from ledlevels.rows import MOST_LEVELS, is_row, product

SIDES = (-1, 1)
HALF = (1, 2)


def is_level(value):
    """Return whether a value is a pair of fractions, low less than high."""
    if not isinstance(value, tuple) or len(value) != 2:
        return False
    low, high = value
    return is_fraction(low) and is_fraction(high) and is_less(low, high)


def is_room(value):
    """Return whether a value is a room."""
    if not isinstance(value, tuple) or not 1 <= len(value) <= MOST_LEVELS:
        return False
    return all([is_level(level) for level in value])


def is_place(room, value):
    """Return whether a value is a place of the room."""
    if not is_row(value, len(room)):
        return False
    return not any([is_less(x, low) or is_less(high, x) for (low, high), x in zip(room, value)])


def inside(room, place):
    """Return whether each fraction of the place is above its low and below its high."""
    return all([is_less(low, x) and is_less(x, high) for (low, high), x in zip(room, place)])


def middle(room):
    """Return the place halfway between low and high at each level."""
    return tuple([times_of(plus(low, high), HALF) for low, high in room])


def wall_form(value, many):
    """Return whether a value is a wall of rooms with so many levels."""
    if not isinstance(value, tuple) or len(value) != 2:
        return False
    level, side = value
    return is_number(level) and 0 <= level < many and is_number(side) and side in SIDES


def walls_of(room):
    """Return the ascending list of all walls of the room."""
    return [(level, side) for level in range(len(room)) for side in SIDES]


def slack(room, place, wall):
    """Return how far the place is from the wall."""
    level, side = wall
    low, high = room[level]
    return size_of(minus(place[level], low if side < 0 else high))


def touched(room, place):
    """Return the ascending tuple of the walls that the place touches."""
    return tuple([wall for wall in walls_of(room) if slack(room, place, wall) == ZERO])


def least_slack(room, place):
    """Return the least slack of the place at any wall."""
    return ascending([slack(room, place, wall) for wall in walls_of(room)])[0]


def most_in(room, slope):
    """Return the greatest product of the slope with a place of the room."""
    return product(slope, tuple([low if is_less(x, ZERO) else high for (low, high), x in zip(room, slope)]))
