"""Plans: laps of turns that stand one behind the other, and where they lead."""

from ledlevels.errors import Endless, TooLate
from ledlevels.fractions import ZERO, ascending, divided, fraction, is_fraction, is_less, is_number
from ledlevels.fractions import minus, plus, size_of, times_of, total
from ledlevels.least import common_lower
from ledlevels.rooms import SIDES, slack, walls_of
from ledlevels.rows import added
from ledlevels.sums import level_sum


def is_step(value, many):
    """Return whether a value is a step of a plan of so many turns."""
    if not isinstance(value, tuple) or len(value) != 2:
        return False
    turn, time = value
    return is_number(turn) and 0 <= turn < many and is_fraction(time) and not is_less(time, ZERO)


def lap_time(steps):
    """Return how long the steps of one lap are together."""
    return total([time for _, time in steps])


def is_lap(value, many, is_last):
    """Return whether a value is a lap of a plan of so many turns; only the last one may be for ever."""
    if not isinstance(value, tuple) or len(value) != 2:
        return False
    steps, n = value
    if not isinstance(steps, tuple) or len(steps) == 0 or not all([is_step(step, many) for step in steps]):
        return False
    if n is None:
        return is_last and any([time != ZERO for _, time in steps])
    return is_number(n) and n >= 1


def is_plan(value, many):
    """Return whether a value is a plan of so many turns."""
    if not isinstance(value, tuple):
        return False
    return all([is_lap(lap, many, k + 1 == len(value)) for k, lap in enumerate(value)])


def is_endless(plan):
    """Return whether a plan is for ever."""
    return len(plan) > 0 and plan[-1][1] is None


def check_ends(plan):
    """Raise Endless if a plan is for ever."""
    if is_endless(plan):
        raise Endless()


def often(x, n):
    """Return a fraction times an integer."""
    return times_of(x, (n, 1))


def time_of(plan):
    """Return how long a plan is, None if it is for ever."""
    if is_endless(plan):
        return None
    return total([often(lap_time(steps), n) for steps, n in plan])


def risen(rates, times):
    """Return the row by which the levels have risen when each rate has gone on for its time."""
    return tuple([level_sum(rates, times, level) for level in range(len(rates[0]))])


def drift(rates, steps):
    """Return the row by which the levels have risen behind the steps of one lap."""
    return risen([rates[turn] for turn, _ in steps], [time for _, time in steps])


def times_used(plan, many):
    """Return the tuple of how long each of so many turns stands in all; Endless if the plan is for ever."""
    check_ends(plan)
    return tuple([
        total([often(time, n) for steps, n in plan for turn, time in steps if turn == k]) for k in range(many)
    ])


def end_of(rates, start, plan):
    """Return the row behind the plan, None if it is for ever."""
    if is_endless(plan):
        return None
    return added(start, risen(rates, times_used(plan, len(rates))))


def joined(one, other):
    """Return the laps of the first and then those of the second plan; Endless if the first is for ever."""
    check_ends(one)
    return one + other


def gone_back(plan):
    """Return the laps, and the steps of each, in the other order; Endless if the plan is for ever."""
    check_ends(plan)
    return tuple([(steps[::-1], n) for steps, n in plan[::-1]])


def whole_part(x):
    """Return the greatest integer that is not above a fraction."""
    return x[0] // x[1]


def whole_laps(once, n, time):
    """Return how many of the n laps, each so long once, are whole within a time."""
    if once == ZERO:
        return 0
    fitting = whole_part(divided(time, once))
    return fitting if n is None else min(n, fitting)


def first_steps(steps, time):
    """Return the steps up to a time within their lap."""
    out, rest = [], time
    for turn, length in steps:
        stands = rest if is_less(rest, length) else length
        if stands != ZERO:
            out.append((turn, stands))
        rest = minus(rest, stands)
    return tuple(out)


def cut(plan, time):
    """Return the plan up to a time; TooLate if it is shorter."""
    out, rest = [], time
    for steps, n in plan:
        once = lap_time(steps)
        done = whole_laps(once, n, rest)
        if done > 0:
            out.append((steps, done))
            rest = minus(rest, often(once, done))
        if rest != ZERO and is_less(rest, once) and done != n:
            out.append((first_steps(steps, rest), 1))
            rest = ZERO
    if rest != ZERO:
        raise TooLate()
    return tuple(out)


def place_at(rates, start, plan, time):
    """Return the row at a time of the plan; TooLate if it is shorter."""
    return end_of(rates, start, cut(plan, time))


# first_out reckons in integers, as the lower numbers of a long plan's places become
# very great: a time is a number of units; a gap is how far a place is from a wall; a
# pace how much less a gap becomes while a turn stands for a unit.


def level_factors(room, rates, start):
    """Return, for each level, an integer by which all its fractions become integers."""
    return [
        common_lower([rate[level] for rate in rates] + [start[level], low, high])
        for level, (low, high) in enumerate(room)
    ]


def paces_of(room, rate, factors):
    """Return the list of a rate's paces to all walls."""
    wholes = [n * (factor // d) for (n, d), factor in zip(rate, factors)]
    return [side * wholes[level] for level, side in walls_of(room)]


def gaps_of(room, start, factors, unit):
    """Return the list of the gaps between a place and all walls."""
    gaps = [slack(room, start, wall) for wall in walls_of(room)]
    return [n * (factors[wall[0]] // d) * unit for (n, d), wall in zip(gaps, walls_of(room))]


def ways_of(steps, paces):
    """Return for all walls how much nearer a lap comes at the end of some step, at most, and how much in all."""
    in_all = [0 for _ in paces[0]]
    most = in_all
    for turn, time in steps:
        in_all = [way + time * pace for way, pace in zip(in_all, paces[turn])]
        most = [max(way, other) for way, other in zip(most, in_all)]
    return most, in_all


def lap_beyond(gaps, most, in_all):
    """Return the number of the first lap, from 0 on, in which a step ends beyond a wall; None if in none."""
    found = []
    for gap, nearer, way in zip(gaps, most, in_all):
        if nearer > gap:
            found.append(0)
        elif way > 0:
            found.append((gap - nearer) // way + 1)
    return min(found) if found else None


def out_in_step(gaps, paces, time):
    """Return the number of the wall beyond which a step leads first, None if beyond none."""
    first = None
    for k, (gap, pace) in enumerate(zip(gaps, paces)):
        if pace * time > gap and (first is None or gap * paces[first] < gaps[first] * pace):
            first = k
    return first


def out_in_lap(gaps, steps, paces):
    """Return the time, a fraction of units, and the number of the wall, at which a lap is out; None if it stays."""
    gone = 0
    for turn, time in steps:
        first = out_in_step(gaps, paces[turn], time)
        if first is not None:
            return plus((gone, 1), fraction(gaps[first], paces[turn][first])), first
        gaps = [gap - pace * time for gap, pace in zip(gaps, paces[turn])]
        gone += time
    return None


def first_out(room, rates, start, plan):
    """Return the pair of the first time and wall at which the plan is out; None if it never is."""
    unit = common_lower([time for steps, _ in plan for _, time in steps])
    factors = level_factors(room, rates, start)
    paces = [paces_of(room, rate, factors) for rate in rates]
    gaps, gone = gaps_of(room, start, factors, unit), 0
    for steps, n in plan:
        wholes = [(turn, x * (unit // d)) for turn, (x, d) in steps]
        # A step that begins in the room is out exactly if it ends beyond a wall.
        most, in_all = ways_of(wholes, paces)
        lap = lap_beyond(gaps, most, in_all)
        is_out = lap is not None and (n is None or lap < n)
        if n is None and not is_out:
            return None
        done = lap if is_out else n
        gaps = [gap - done * way for gap, way in zip(gaps, in_all)]
        gone += done * sum([time for _, time in wholes])
        if is_out:
            time, first = out_in_lap(gaps, wholes, paces)
            return (divided(plus((gone, 1), time), (unit, 1)), walls_of(room)[first])
    return None


def thin_lap(room, rates, places, times):
    """Return the lap (steps, n) of these times of the turns, each divided by n, done n times.

    It is so short that it stays in the room from each of the places, and from each
    that lies between them. No wall that one of these touches may be crossed or left.
    """
    n = 1
    for level in range(len(room)):
        reach = total([times_of(size_of(rate[level]), time) for rate, time in zip(rates, times)])
        if reach != ZERO:
            gaps = ascending([slack(room, place, (level, side)) for place in places for side in SIDES])
            n = max(n, whole_part(divided(reach, gaps[0])) + 1)
    steps = [(turn, divided(time, (n, 1))) for turn, time in enumerate(times) if time != ZERO]
    return (tuple(steps), n)
