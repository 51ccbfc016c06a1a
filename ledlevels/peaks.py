"""The least power at which rates mix."""

from ledlevels.costs import climb_fault, is_shares_form
from ledlevels.fractions import ZERO, ascending, is_less
from ledlevels.mixing import mixed, mixes_fault
from ledlevels.rows import nought
from ledlevels.sums import is_told


def turns_up_to(powers, cap):
    """Return the list of the turns of at most this power."""
    return [k for k, power in enumerate(powers) if not is_less(cap, power)]


def peak(rates, powers):
    """Return ("peak", cap, shares, slope) or ("climbs", slope)."""
    slope = nought(len(rates[0]))
    for cap in ascending(powers):
        lot = turns_up_to(powers, cap)
        word, told = mixed([rates[k] for k in lot])
        if word == "mixes":
            shares = {k: share for k, share in zip(lot, told)}
            return ("peak", cap, tuple([shares.get(k, ZERO) for k in range(len(rates))]), slope)
        slope = told
    return ("climbs", slope)


def lot_fault(rates, lot, slope):
    """Return the fault of the least turn of an ascending lot whose rate does not climb the slope, None if all do."""
    fault = climb_fault([rates[k] for k in lot], slope)
    return None if fault is None else ("slope", lot[fault[1]])


def judge_peak(rates, powers, value):
    """Return None if value is a right answer of peak, else its first fault."""
    levels = len(rates[0])
    if is_told(value, "climbs", (levels,)):
        return climb_fault(rates, value[1])
    if not is_shares_form(value, "peak", len(rates), levels):
        return ("form",)
    _, cap, shares, slope = value
    if mixes_fault(rates, shares) is not None:
        return ("shares",)
    for k, share in enumerate(shares):
        if share != ZERO and is_less(cap, powers[k]):
            return ("power", k)
    return lot_fault(rates, [k for k, power in enumerate(powers) if is_less(power, cap)], slope)
