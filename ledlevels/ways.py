"""Ways from one place to another within a room, or the fall of papers that bars them."""

from ledlevels.fractions import ZERO, ascending, is_number, minus, times_of
from ledlevels.kept import walls_form, freed
from ledlevels.lots import fall_to, is_ended, paper_holds, spread, turned
from ledlevels.plans import end_of, first_out, gone_back, is_endless, is_plan, risen, thin_lap, times_used
from ledlevels.rooms import HALF
from ledlevels.rows import added, is_row, taken
from ledlevels.sums import is_told, is_worded

BY_PLACES = ("ahead", "behind")


def way_by(room, rates, one, other, lot):
    """Return a way that uses all turns of a lot of which no paper holds."""
    _, told = spread([rates[k] for k in lot], taken(other, one))
    times = {k: time for k, time in zip(lot, told)}
    most = times_of(ascending(list(times.values()))[0], HALF)
    # Off the walls at one, and back from those at other, each in less than half of any turn's time.
    first = freed(room, rates, one, lot, most)
    last = gone_back(freed(room, turned(rates), other, lot, most))
    many = len(rates)
    begun, ended = times_used(first, many), times_used(last, many)
    rest = [minus(minus(times.get(k, ZERO), begun[k]), ended[k]) for k in range(many)]
    start = end_of(rates, one, first)
    lap = thin_lap(room, rates, [start, added(start, risen(rates, rest))], rest)
    return first + (lap,) + last


def way(room, rates, one, other):
    """Return ("way", plan) or ("fall", papers)."""
    if one == other:
        return ("way", ())
    papers, lot = fall_to(room, rates, one, other)
    if is_ended(papers):
        return ("fall", tuple(papers))
    return ("way", way_by(room, rates, one, other, lot))


def is_end(value, levels):
    """Return whether a value is a paper that ends a lot, for so many levels."""
    return is_told(value, "end", (levels,))


def is_taking(value, many, levels):
    """Return whether a value is a paper that takes one of so many turns off, for so many levels."""
    if not isinstance(value, tuple) or len(value) != 3:
        return False
    word, k, told = value
    if not is_number(k) or not 0 <= k < many:
        return False
    if word == "slope":
        return is_row(told, levels)
    return word in BY_PLACES and walls_form(told, levels)


def is_fall(value, many, levels):
    """Return whether a value is a tuple of papers, the last one, and no other one, an end."""
    if not isinstance(value, tuple) or len(value) == 0 or not is_end(value[-1], levels):
        return False
    return all([is_taking(paper, many, levels) for paper in value[:-1]])


def plan_fault(room, rates, one, other, plan):
    """Return the first fault of ("way", plan), None if there is none."""
    told = first_out(room, rates, one, plan)
    if told is not None:
        return ("out", told[0], told[1])
    place = end_of(rates, one, plan)
    return None if place == other else ("ends", place)


def fall_fault(room, rates, one, other, papers):
    """Return the first fault of ("fall", papers), None if there is none."""
    lot = tuple(range(len(rates)))
    for n, paper in enumerate(papers):
        if not paper_holds(room, rates, one, other, lot, paper):
            return ("paper", n)
        lot = tuple([k for k in lot if k != paper[1]])
    return None


def judge_way(room, rates, one, other, value):
    """Return None if value is a right answer of way, else its first fault."""
    many = len(rates)
    if is_worded(value, "way", 1) and is_plan(value[1], many) and not is_endless(value[1]):
        return plan_fault(room, rates, one, other, value[1])
    if is_worded(value, "fall", 1) and is_fall(value[1], many, len(room)):
        return fall_fault(room, rates, one, other, value[1])
    return ("form",)
