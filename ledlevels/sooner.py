"""Whether some rates are as quick as others, whatever row they are to lead by."""

from ledlevels.fractions import ONE, divided, is_less, is_number, total
from ledlevels.rows import is_row, product, scaled
from ledlevels.sums import first_below, first_off, is_worded
from ledlevels.times import first_steep, least_time

TWO = (2, 1)


def in_time(rates, v):
    """Return the pair of times for rates, together at most 1, that reach v, and None.

    If there are none, the pair is None and a slope whose product with each rate is
    at most 1, and with v above 1.
    """
    answer = least_time(rates, v)
    if answer[0] == "barred":
        # Its product with v is below 0, and with no rate: turned about it may be as steep as one likes.
        return None, scaled(answer[1], divided(TWO, product(answer[1], v)))
    if is_less(ONE, total(answer[1])):
        return None, answer[2]
    return answer[1], None


def never_slower(rates, others):
    """Return ("quick", papers) or ("slower", number, slope)."""
    papers = []
    for number, v in enumerate(others):
        times, slope = in_time(rates, v)
        if times is None:
            return ("slower", number, slope)
        papers.append(times)
    return ("quick", papers)


def alike_times(rates, others):
    """Return whether each of two lists of rates is as quick as the other one."""
    return never_slower(rates, others)[0] == "quick" and never_slower(others, rates)[0] == "quick"


def are_times(value, many):
    """Return whether a value is times for so many rates."""
    return is_row(value, many) and first_below(value) is None


def is_quick_form(value, many, more):
    """Return whether a value is a tuple of "quick" and times for so many rates, for so many more."""
    if not is_worded(value, "quick", 1) or not isinstance(value[1], (list, tuple)) or len(value[1]) != more:
        return False
    return all([are_times(times, many) for times in value[1]])


def is_slower_form(value, more, levels):
    """Return whether a value is a tuple of "slower", a number below more, and a row for so many levels."""
    if not is_worded(value, "slower", 2):
        return False
    return is_number(value[1]) and 0 <= value[1] < more and is_row(value[2], levels)


def quick_fault(rates, others, papers):
    """Return the first fault of ("quick", papers), None if there is none."""
    for k, (v, times) in enumerate(zip(others, papers)):
        if first_off(rates, times, v) is not None:
            return ("sum", k)
        if is_less(ONE, total(times)):
            return ("time", k)
    return None


def slower_fault(rates, others, number, slope):
    """Return the first fault of ("slower", number, slope), None if there is none."""
    k = first_steep(rates, slope)
    if k is not None:
        return ("rate", k)
    if not is_less(ONE, product(slope, others[number])):
        return ("within",)
    told = never_slower(rates, others[:number])
    return ("first", told[1]) if told[0] == "slower" else None


def judge_sooner(rates, others, value):
    """Return None if value is a right answer of never_slower, else its first fault."""
    if is_quick_form(value, len(rates), len(others)):
        return quick_fault(rates, others, value[1])
    if is_slower_form(value, len(others), len(rates[0])):
        return slower_fault(rates, others, value[1], value[2])
    return ("form",)
