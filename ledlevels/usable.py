"""Which columns are used by some amounts that reach a target, and what bars the others."""

from ledlevels.fractions import ZERO, is_less
from ledlevels.least import least
from ledlevels.rows import added, back, product
from ledlevels.sums import first_falling, is_told, reaching_fault

PAY = (-1, 1)


def paid_for(columns, target, k):
    """Return what least answers if column k is paid for and all others cost nothing."""
    costs = [PAY if number == k else ZERO for number in range(len(columns))]
    return least(columns, costs, target)


def is_reached(columns, target):
    """Return whether amounts from 0 on reach target."""
    return least(columns, [ZERO] * len(columns), target)[0] != "none"


def entry_of(columns, target, k):
    """Return ("used", amounts) or ("barred", slope) for column k of columns that reach target."""
    word, amounts, more = paid_for(columns, target, k)
    if word == "endless":
        return ("used", added(amounts, more))
    if amounts[k] != ZERO:
        return ("used", amounts)
    return ("barred", back(more))


def usable(columns, target):
    """Return the list of an entry for each column, None if no amounts from 0 on reach target."""
    if not is_reached(columns, target):
        return None
    return [entry_of(columns, target, k) for k in range(len(columns))]


def is_entry(value, many, levels):
    """Return whether a value has the form of an entry of so many columns and levels."""
    return is_told(value, "used", (many,)) or is_told(value, "barred", (levels,))


def used_fault(columns, target, k, amounts):
    """Return the first fault of ("used", amounts) for column k, None if there is none."""
    fault = reaching_fault(columns, target, amounts)
    if fault is None and amounts[k] == ZERO:
        return ("idle",)
    return fault


def barred_fault(columns, target, k, slope):
    """Return the first fault of ("barred", slope) for column k, None if there is none."""
    number = first_falling(columns, slope)
    if number is not None:
        return ("slope", number)
    if product(slope, columns[k]) == ZERO:
        return ("flat",)
    if is_less(ZERO, product(slope, target)):
        return ("target",)
    return None


def entry_fault(columns, target, k, entry):
    """Return the first fault of the entry for column k, None if there is none."""
    word, told = entry
    if word == "used":
        return used_fault(columns, target, k, told)
    return barred_fault(columns, target, k, told)


def judge_usable(columns, target, value):
    """Return None if value is a right answer of usable, else its first fault."""
    many, levels = len(columns), len(target)
    if value is None:
        return ("reached",) if is_reached(columns, target) else None
    if not isinstance(value, (list, tuple)) or len(value) != many:
        return ("form",)
    if not all([is_entry(entry, many, levels) for entry in value]):
        return ("form",)
    if not is_reached(columns, target):
        return ("none",)
    for k, entry in enumerate(value):
        fault = entry_fault(columns, target, k, entry)
        if fault is not None:
            return ("column", k, fault)
    return None
