"""The least cost at which amounts of columns reach a target, or what bars it."""

from math import gcd, lcm

from ledlevels.exchange import cost_of_lot, first_stand, inner, prices_of, settled, shares_of
from ledlevels.fractions import ZERO, fraction, is_less, times_of, total
from ledlevels.rows import nought, product
from ledlevels.sums import first_below, first_falling, first_off, is_told, reaching_fault


def common_lower(fractions):
    """Return the least common multiple of the lower numbers."""
    common = 1
    for x in fractions:
        common = lcm(common, x[1])
    return common


def times_whole(fractions, factor):
    """Return the list of the integers that the fractions times the factor are."""
    return [n * (factor // d) for n, d in fractions]


def shortened(numbers):
    """Return the row of these integers, divided by what divides all of them."""
    common = 0
    for n in numbers:
        common = gcd(common, n)
    return tuple([(n // max(common, 1), 1) for n in numbers])


def amounts_of(numbers, factors, unit):
    """Return the amounts of the columns, told by a dict of those that are not 0 for sure."""
    return tuple([
        fraction(numbers[k] * factor, unit) if k in numbers else ZERO for k, factor in enumerate(factors)
    ])


def raised(prices, slope, columns, costs, unit):
    """Return the prices plus that much of the slope that no column is above its cost.

    The slope's product with a column that the prices were not made for is below 0,
    and with the target it is 0.
    """
    times = 0
    for column, cost in zip(columns, costs):
        over, fall = inner(prices, column) - cost * unit, -inner(slope, column)
        if over > 0:
            times = max(times, (over + fall - 1) // fall)
    return [x + times * y for x, y in zip(prices, slope)]


def endless(stand, more, columns, factors, goal_factor):
    """Return the answer of least if more and more of the column with this number costs less."""
    lot, table, unit = stand
    amounts = amounts_of({k: line[0] for k, line in zip(lot, table)}, factors, unit * goal_factor)
    numbers = {k: -share for k, share in zip(lot, shares_of(stand, columns[more]))}
    numbers[more] = unit
    return ("endless", amounts, amounts_of(numbers, factors, unit))


def least(columns, costs, target):
    """Return ("least", amounts, prices), ("none", slope) or ("endless", amounts, more)."""
    factors = [common_lower(column + (cost,)) for column, cost in zip(columns, costs)]
    wholes = [times_whole(column, factor) for column, factor in zip(columns, factors)]
    whole_costs = [n * (factor // d) for (n, d), factor in zip(costs, factors)]
    goal_factor = common_lower(target)
    goal = times_whole(target, goal_factor)
    many, levels = len(wholes), len(goal)
    # First the helpers alone cost something: the target is reached if none is left.
    helping = [0] * many + [1] * levels
    start = first_stand(many, goal)
    stand, _ = settled(start, wholes, factors, helping, [True] * many)
    slope = prices_of(stand, helping)
    if cost_of_lot(stand, helping) > 0:
        return ("none", shortened([-n for n in slope]))
    # A column below that slope would bring helpers back, and so cannot be used.
    is_let = [inner(slope, column) == 0 for column in wholes]
    paying = whole_costs + [0] * levels
    stand, more = settled(stand, wholes, factors, paying, is_let)
    if more is not None:
        return endless(stand, more, wholes, factors, goal_factor)
    lot, table, unit = stand
    slope = prices_of(stand, helping)
    prices = raised(prices_of(stand, paying), slope, wholes, whole_costs, unit)
    amounts = amounts_of({k: line[0] for k, line in zip(lot, table)}, factors, unit * goal_factor)
    return ("least", amounts, tuple([fraction(n, unit) for n in prices]))


def cost_of_amounts(costs, amounts):
    """Return the sum of the costs times the amounts."""
    return total([times_of(cost, amount) for cost, amount in zip(costs, amounts)])


def price_fault(columns, costs, target, amounts, prices):
    """Return the first fault of the prices of ("least", amounts, prices), None if there is none."""
    for k, column in enumerate(columns):
        if is_less(costs[k], product(prices, column)):
            return ("price", k)
    if product(prices, target) != cost_of_amounts(costs, amounts):
        return ("apart",)
    return None


def slope_fault(columns, target, slope):
    """Return the first fault of ("none", slope), None if there is none."""
    k = first_falling(columns, slope)
    if k is not None:
        return ("slope", k)
    if not is_less(product(slope, target), ZERO):
        return ("target",)
    return None


def more_fault(columns, costs, more):
    """Return the first fault of more in ("endless", amounts, more), None if there is none."""
    k = first_below(more)
    if k is not None:
        return ("more", k)
    level = first_off(columns, more, nought(len(columns[0])))
    if level is not None:
        return ("drift", level)
    if not is_less(cost_of_amounts(costs, more), ZERO):
        return ("cost",)
    return None


def judge_least(columns, costs, target, value):
    """Return None if value is a right answer of least, else its first fault."""
    many, levels = len(columns), len(target)
    if is_told(value, "none", (levels,)):
        return slope_fault(columns, target, value[1])
    is_least = is_told(value, "least", (many, levels))
    if not is_least and not is_told(value, "endless", (many, many)):
        return ("form",)
    fault = reaching_fault(columns, target, value[1])
    if fault is not None:
        return fault
    if is_least:
        return price_fault(columns, costs, target, value[1], value[2])
    return more_fault(columns, costs, value[2])
