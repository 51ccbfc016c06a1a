"""The least mean cost of rates that mix, what plans cost, and the cheapest plan for ever."""

from ledlevels.errors import NotInside, NoWay
from ledlevels.fractions import ZERO, divided, is_fraction, is_less, plus, total
from ledlevels.least import cost_of_amounts, least
from ledlevels.mixing import climbs_fault, mixes_fault, mixing_target, share_columns
from ledlevels.plans import check_ends, is_endless, lap_time, often, thin_lap, time_of
from ledlevels.rooms import inside
from ledlevels.rows import is_row, product
from ledlevels.sums import is_told, is_worded


def least_cost(rates, costs):
    """Return ("least", cost, shares, prices) or ("climbs", slope)."""
    levels = len(rates[0])
    answer = least(share_columns(rates), costs, mixing_target(rates))
    if answer[0] == "none":
        return ("climbs", answer[1][:levels])
    _, shares, prices = answer
    # The last price is that of a share: for all shares together it is just what they cost.
    return ("least", prices[levels], shares, prices[:levels])


def is_shares_form(value, word, turns, levels):
    """Return whether a value is a tuple of the word, a fraction, a tuple of a fraction for each turn, and a row."""
    if not is_worded(value, word, 3):
        return False
    return is_fraction(value[1]) and is_row(value[2], turns) and is_row(value[3], levels)


def prices_fault(rates, costs, cost, prices):
    """Return the fault of the least turn that costs less than prices and cost together, None if none does."""
    for k, rate in enumerate(rates):
        if is_less(costs[k], plus(product(prices, rate), cost)):
            return ("prices", k)
    return None


def climb_fault(rates, slope):
    """Return the fault of the least turn whose rate does not climb the slope, None if all do."""
    fault = climbs_fault(rates, slope)
    return None if fault is None else ("slope", fault[1])


def judge_cost(rates, costs, value):
    """Return None if value is a right answer of least_cost, else its first fault."""
    levels = len(rates[0])
    if is_told(value, "climbs", (levels,)):
        return climb_fault(rates, value[1])
    if not is_shares_form(value, "least", len(rates), levels):
        return ("form",)
    _, cost, shares, prices = value
    if mixes_fault(rates, shares) is not None:
        return ("shares",)
    mean = cost_of_amounts(costs, shares)
    if mean != cost:
        return ("cost", mean)
    return prices_fault(rates, costs, cost, prices)


def cost_of_lap(costs, steps):
    """Return what the steps of a lap cost, done once."""
    return cost_of_amounts([costs[turn] for turn, _ in steps], [time for _, time in steps])


def cost_of(costs, plan):
    """Return what a plan costs; Endless if it is for ever."""
    check_ends(plan)
    return total([often(cost_of_lap(costs, steps), n) for steps, n in plan])


def mean_cost(costs, plan):
    """Return what a plan costs in a time of 1, for ever if it is so; None if it takes no time."""
    if is_endless(plan):
        steps = plan[-1][0]
        return divided(cost_of_lap(costs, steps), lap_time(steps))
    time = time_of(plan)
    return None if time == ZERO else divided(cost_of(costs, plan), time)


def cheapest(room, rates, costs, place):
    """Return a plan for ever of the least mean cost that stays in the room; NotInside or NoWay if there is none."""
    if not inside(room, place):
        raise NotInside(0)
    answer = least_cost(rates, costs)
    if answer[0] == "climbs":
        raise NoWay(answer[1])
    steps, _ = thin_lap(room, rates, [place], answer[2])
    return ((steps, None),)
