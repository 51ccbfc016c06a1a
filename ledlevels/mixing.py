"""Mixings of rows, and the slopes of rows that do not mix."""

from ledlevels.fractions import ONE, ZERO, is_less, total
from ledlevels.least import least
from ledlevels.order import in_order
from ledlevels.rows import is_row_ahead, nought, product
from ledlevels.sums import first_below, first_off, is_told
from ledlevels.tables import only_amounts


def share_columns(rows):
    """Return the rows with a 1 more at their end: so amounts that reach mixing_target are shares."""
    return [row + (ONE,) for row in rows]


def mixing_target(rows):
    """Return what the columns of share_columns come to by the shares of a mixing."""
    return nought(len(rows[0])) + (ONE,)


def mixed(rows):
    """Return ("mixes", shares) or ("climbs", slope)."""
    answer = least(share_columns(rows), [ZERO] * len(rows), mixing_target(rows))
    if answer[0] == "none":
        return ("climbs", answer[1][:len(rows[0])])
    return ("mixes", answer[1])


def mixes_fault(rows, shares):
    """Return the first fault of ("mixes", shares), None if there is none."""
    k = first_below(shares)
    if k is not None:
        return ("below", k)
    if total(shares) != ONE:
        return ("whole",)
    level = first_off(rows, shares, nought(len(rows[0])))
    return None if level is None else ("sum", level)


def climbs_fault(rows, slope):
    """Return the first fault of ("climbs", slope), None if there is none."""
    for k, row in enumerate(rows):
        if not is_less(ZERO, product(slope, row)):
            return ("row", k)
    return None


def judge_mixed(rows, value):
    """Return None if value is a right answer of mixed, else its first fault."""
    if is_told(value, "climbs", (len(rows[0]),)):
        return climbs_fault(rows, value[1])
    if is_told(value, "mixes", (len(rows),)):
        return mixes_fault(rows, value[1])
    return ("form",)


def small_lots(many, most):
    """Return the list of all ascending tuples of at most so many of the numbers below many."""
    lots = [()]
    for k in range(many):
        lots = lots + [lot + (k,) for lot in lots if len(lot) < most]
    return lots


def corner_of(columns, target, lot):
    """Return the mixing that has shares above 0 for just this lot and is the only one, else None."""
    shares = only_amounts([columns[k] for k in lot], target)
    if shares is None or not all([is_less(ZERO, share) for share in shares]):
        return None
    found = {k: share for k, share in zip(lot, shares)}
    return tuple([found.get(k, ZERO) for k in range(len(columns))])


def corners(rows):
    """Return the ascending list of all mixings of which no row could be left out."""
    columns, target = share_columns(rows), mixing_target(rows)
    # More columns than levels are never the only ones that reach the target.
    lots = small_lots(len(rows), len(target))
    told = [corner_of(columns, target, lot) for lot in lots]
    return in_order([corner for corner in told if corner is not None], is_row_ahead)
