"""Several lists of rates that share one cap: which rows of turns are let, and whether they mix for all at once."""

from ledlevels.errors import TooMany
from ledlevels.fractions import ONE, ZERO, ascending, is_fraction, is_less, total
from ledlevels.mills import all_choices, is_choice, rates_of
from ledlevels.mixing import mixed
from ledlevels.rows import is_row, nought, product
from ledlevels.sums import is_worded, level_sum

MOST_ROWS = 200


def check_rows(many):
    """Raise TooMany if there are more rows than are let."""
    if many > MOST_ROWS:
        raise TooMany()


def power_of(powers, row):
    """Return the powers of a row's turns, added."""
    return total(rates_of(powers, row))


def is_let(powers, cap, row):
    """Return whether the powers of a row's turns come to at most the cap."""
    return not is_less(cap, power_of(powers, row))


def let_rows(powers, cap):
    """Return the ascending list of all let rows; TooMany if there are more than 200."""
    # A row of turns is chosen as a mill's corners are: one of each list.
    told = [row for row in all_choices(powers) if is_let(powers, cap, row)]
    check_rows(len(told))
    return told


def side_by_side(rows):
    """Return one row of the fractions of several rows, one behind the other."""
    told = ()
    for row in rows:
        told = told + row
    return told


def taken_apart(several, row):
    """Return the tuple of the parts of a row, one for each list, as long as it has levels."""
    parts, at = [], 0
    for rates in several:
        levels = len(rates[0])
        parts.append(row[at:at + levels])
        at += levels
    return tuple(parts)


def together(several, powers, cap):
    """Return ("mixes", shares) or ("climbs", slopes); TooMany if more than 200 rows are let."""
    rows = let_rows(powers, cap)
    if not rows:
        return ("climbs", tuple([nought(len(rates[0])) for rates in several]))
    word, told = mixed([side_by_side(rates_of(several, row)) for row in rows])
    if word == "climbs":
        return ("climbs", taken_apart(several, told))
    return ("mixes", tuple([(row, share) for row, share in zip(rows, told) if share != ZERO]))


def is_share(value, several):
    """Return whether a value is a pair of a row of turns and a fraction."""
    return isinstance(value, tuple) and len(value) == 2 and is_choice(value[0], several) and is_fraction(value[1])


def is_shares(value, several):
    """Return whether a value is a tuple, not (), of pairs of a row and a fraction, the rows ascending, each once."""
    if not isinstance(value, tuple) or len(value) == 0 or not all([is_share(pair, several) for pair in value]):
        return False
    return all([one[0] < other[0] for one, other in zip(value[:-1], value[1:])])


def is_slopes(value, several):
    """Return whether a value is a tuple of rows, one for each list, for its levels."""
    if not isinstance(value, tuple) or len(value) != len(several):
        return False
    return all([is_row(slope, len(rates[0])) for rates, slope in zip(several, value)])


def shares_fault(several, powers, cap, shares):
    """Return the first fault of ("mixes", shares), None if there is none."""
    for row, _ in shares:
        if not is_let(powers, cap, row):
            return ("row", row)
    amounts = [share for _, share in shares]
    if not all([is_less(ZERO, share) for share in amounts]) or total(amounts) != ONE:
        return ("shares",)
    for i, rates in enumerate(several):
        columns = [rates[row[i]] for row, _ in shares]
        for level in range(len(rates[0])):
            if level_sum(columns, amounts, level) != ZERO:
                return ("level", i, level)
    return None


def slopes_fault(several, rows, slopes):
    """Return the fault of the first of the rows that does not climb the slopes, None if all do."""
    for row in rows:
        gains = [product(slope, rate) for slope, rate in zip(slopes, rates_of(several, row))]
        if not is_less(ZERO, total(gains)):
            return ("slope", row)
    return None


def judge_together(several, powers, cap, value):
    """Return None if value is a right answer of together, else its first fault; TooMany as together."""
    rows = let_rows(powers, cap)
    if is_worded(value, "mixes", 1) and is_shares(value[1], several):
        return shares_fault(several, powers, cap, value[1])
    if is_worded(value, "climbs", 1) and is_slopes(value[1], several):
        return slopes_fault(several, rows, value[1])
    return ("form",)


def common_cap(several, powers):
    """Return the least cap at which the lists mix together, None if none is; TooMany if there are too many rows."""
    rows = all_choices(powers)
    check_rows(len(rows))
    caps = ascending([power_of(powers, row) for row in rows])
    # What mixes at a cap mixes at each greater one.
    low, high = 0, len(caps)
    while low < high:
        half = (low + high) // 2
        if together(several, powers, caps[half])[0] == "mixes":
            high = half
        else:
            low = half + 1
    return caps[low] if low < len(caps) else None
