"""The least times in which rates lead by a row, and the quickest plans."""

from ledlevels.errors import NoWay, NotInside
from ledlevels.fractions import ONE, ZERO, is_less, total
from ledlevels.least import least
from ledlevels.plans import thin_lap
from ledlevels.rooms import inside
from ledlevels.rows import product, taken
from ledlevels.sums import first_below, first_falling, first_off, is_told


def least_time(rates, v):
    """Return ("least", times, slope) or ("barred", slope)."""
    answer = least(rates, [ONE] * len(rates), v)
    if answer[0] == "none":
        return ("barred", answer[1])
    return answer


def time_for(rates, v):
    """Return the least sum of times that reach v, None if none do."""
    answer = least_time(rates, v)
    return total(answer[1]) if answer[0] == "least" else None


def first_steep(rates, slope):
    """Return the least number of a rate whose product with the slope is above 1, None if none is."""
    for k, rate in enumerate(rates):
        if is_less(ONE, product(slope, rate)):
            return k
    return None


def least_fault(rates, v, times, slope):
    """Return the first fault of ("least", times, slope), None if there is none."""
    if first_off(rates, times, v) is not None:
        return ("sum",)
    k = first_steep(rates, slope)
    if k is not None:
        return ("rate", k)
    reached = product(slope, v)
    return None if reached == total(times) else ("time", reached)


def barred_fault(rates, v, slope):
    """Return the first fault of ("barred", slope), None if there is none."""
    k = first_falling(rates, slope)
    if k is not None:
        return ("rate", k)
    return None if is_less(product(slope, v), ZERO) else ("way",)


def judge_time(rates, v, value):
    """Return None if value is a right answer of least_time, else its first fault."""
    if is_told(value, "barred", (len(v),)):
        return barred_fault(rates, v, value[1])
    if is_told(value, "least", (len(rates), len(v))) and first_below(value[1]) is None:
        return least_fault(rates, v, value[1], value[2])
    return ("form",)


def quickest(room, rates, one, other):
    """Return a plan of the least time from one to other; NotInside or NoWay if there is none."""
    if not inside(room, one):
        raise NotInside(0)
    if not inside(room, other):
        raise NotInside(1)
    if one == other:
        return ()
    answer = least_time(rates, taken(other, one))
    if answer[0] == "barred":
        raise NoWay(answer[1])
    return (thin_lap(room, rates, [one, other], answer[1]),)
