"""Whether a place is kept in its room for ever: by which plan, or what bars it."""

from ledlevels.fractions import ONE, ZERO, ascending, divided, is_less, minus, size_of, times_of
from ledlevels.mixing import mixed
from ledlevels.plans import end_of, first_out, is_endless, is_plan, thin_lap, whole_part
from ledlevels.rooms import SIDES, most_in, slack, touched, wall_form, walls_of
from ledlevels.rows import added, is_row, nought, product, scaled
from ledlevels.sums import is_worded
from ledlevels.walls import crosses, crosses_one, leaves_one, lets, rounds

TWICE = (2, 1)
MOST_STEPS = (4, 1)


def turn_off(rates, lot, walls):
    """Return the least turn of the lot that crosses none of the walls and leaves one; None if none does."""
    for k, rate in enumerate(rates):
        if k in lot and not crosses_one(rate, walls) and leaves_one(rate, walls):
            return k
    return None


def short_time(room, rate, place, most):
    """Return a time so short that a rate comes at most half way to each wall that it crosses.

    Each step takes a wall off, so there are at most four; together they take less
    than most.
    """
    # Times are whole parts of 1: else each step would bear the numbers of all
    # places ahead of it, and kept's plans would have too many figures.
    parts = whole_part(divided(MOST_STEPS, most)) + 1
    for wall in walls_of(room):
        if crosses(rate, wall):
            haste = divided(size_of(rate[wall[0]]), slack(room, place, wall))
            parts = max(parts, whole_part(times_of(haste, TWICE)) + 1)
    return (1, parts)


def freed(room, rates, place, lot, most):
    """Return a plan of the lot's turns, shorter than most, that comes off all walls that come off."""
    steps = []
    while True:
        turn = turn_off(rates, lot, touched(room, place))
        if turn is None:
            return ((tuple(steps), 1),) if steps else ()
        time = short_time(room, rates[turn], place, most)
        steps.append((turn, time))
        place = added(place, scaled(rates[turn], time))


def kept(room, rates, place):
    """Return ("kept", plan) or ("out", walls, slope)."""
    lot, walls = rounds(rates, touched(room, place), list(range(len(rates))))
    if not lot:
        return ("out", tuple(walls), nought(len(room)))
    word, told = mixed([rates[k] for k in lot])
    if word == "climbs":
        return ("out", tuple(walls), told)
    shares = {k: share for k, share in zip(lot, told)}
    plan = freed(room, rates, place, lot, ONE)
    times = [shares.get(k, ZERO) for k in range(len(rates))]
    steps, _ = thin_lap(room, rates, [end_of(rates, place, plan)], times)
    return ("kept", plan + ((steps, None),))


def walls_form(value, many):
    """Return whether a value is an ascending tuple, none twice, of walls of rooms with so many levels."""
    if not isinstance(value, tuple) or not all([wall_form(wall, many) for wall in value]):
        return False
    return all([one < other for one, other in zip(value[:-1], value[1:])])


def is_kept_form(value, many):
    """Return whether a value is a tuple of "kept" and a plan for ever of so many turns."""
    return is_worded(value, "kept", 1) and is_plan(value[1], many) and is_endless(value[1])


def is_out_form(value, levels):
    """Return whether a value is a tuple of "out", walls and a row, for so many levels."""
    return is_worded(value, "out", 2) and walls_form(value[1], levels) and is_row(value[2], levels)


def out_fault(room, rates, place, walls, slope):
    """Return the first fault of ("out", walls, slope), None if there is none."""
    touching = touched(room, place)
    for wall in walls:
        if wall not in touching:
            return ("touched", wall)
    for k in lets(rates, walls):
        if leaves_one(rates[k], walls) or not is_less(ZERO, product(slope, rates[k])):
            return ("turn", k)
    return None


def judge_kept(room, rates, place, value):
    """Return None if value is a right answer of kept, else its first fault."""
    if is_out_form(value, len(room)):
        return out_fault(room, rates, place, value[1], value[2])
    if not is_kept_form(value, len(rates)):
        return ("form",)
    told = first_out(room, rates, place, value[1])
    return None if told is None else ("leaves", told[0], told[1])


def longest_climb(room, rates, place, slope):
    """Return how long the rates may stand in turn until slope . place is above what the room lets."""
    gains = ascending([product(slope, rate) for rate in rates])
    return divided(minus(most_in(room, slope), product(slope, place)), gains[0])


def out_by(room, rates, place, walls, slope):
    """Return the time at which each plan from the place is out, by these walls and this slope."""
    free = lets(rates, walls)
    if not free:
        return ZERO
    return longest_climb(room, [rates[k] for k in free], place, slope)


def walls_by_level(levels):
    """Return the list of all ascending tuples of walls with no level twice."""
    told = [()]
    for level in range(levels):
        told = told + [walls + ((level, side),) for walls in told for side in SIDES]
    return told


def is_round(rates, lot):
    """Return whether the rates of a lot mix."""
    return len(lot) > 0 and mixed([rates[k] for k in lot])[0] == "mixes"


def kept_by_touch(rates, levels):
    """Return the dict that tells for each tuple of walls whether a place that touches just these is kept."""
    lots = {walls: tuple(rounds(rates, walls, list(range(len(rates))))[0]) for walls in walls_by_level(levels)}
    # Many walls let the same turns: each lot is mixed once.
    known = {}
    for walls in lots:
        if lots[walls] not in known:
            known[lots[walls]] = is_round(rates, lots[walls])
    return {walls: known[lots[walls]] for walls in lots}


def kept_everywhere(rates, levels):
    """Return whether each place is kept, whatever walls it touches."""
    return all(list(kept_by_touch(rates, levels).values()))
