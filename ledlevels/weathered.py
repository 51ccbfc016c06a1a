"""What a mill costs in any weather, and the rule that keeps to it."""

from ledlevels.costs import climb_fault, least_cost, prices_fault
from ledlevels.errors import NoAnswer
from ledlevels.fractions import ZERO, divided, is_fraction, is_less, minus, plus, size_of, times_of
from ledlevels.held import is_choice_form
from ledlevels.live import time_by_haste
from ledlevels.mills import choices, is_choice, rates_of
from ledlevels.rows import added, is_row, product, scaled, sizes, taken
from ledlevels.sums import is_worded


def cost_of_choice(mill, costs, choice):
    """Return what least_cost tells of a choice's rates and costs."""
    # Costs stand as corners do, so that they are chosen alike.
    return least_cost(rates_of(mill, choice), rates_of(costs, choice))


def held_cost(mill, costs):
    """Return ("least", cost, choice, prices) or ("driven", choice, slope); TooMany beyond 64 choices."""
    best = None
    for choice in choices(mill):
        answer = cost_of_choice(mill, costs, choice)
        if answer[0] == "climbs":
            return ("driven", choice, answer[1])
        cost, prices = answer[1], answer[3]
        if best is None or is_less(best[1], cost):
            best = ("least", cost, choice, prices)
    return best


def is_held_cost_form(value, mill):
    """Return whether a value is a tuple of "least", a fraction, a choice and a row for the mill's levels."""
    if not is_worded(value, "least", 3) or not is_fraction(value[1]):
        return False
    return is_choice(value[2], mill) and is_row(value[3], len(mill[0][0]))


def dearer(mill, costs, told, cost):
    """Return the first of the told choices whose rates do not mix for so little cost, None if there is none."""
    for choice in told:
        answer = cost_of_choice(mill, costs, choice)
        if answer[0] == "climbs" or is_less(cost, answer[1]):
            return choice
    return None


def judge_held_cost(mill, costs, value):
    """Return None if value is a right answer of held_cost, else its first fault; TooMany as held_cost."""
    told = choices(mill)
    if is_choice_form(value, "driven", mill):
        return climb_fault(rates_of(mill, value[1]), value[2])
    if not is_held_cost_form(value, mill):
        return ("form",)
    _, cost, choice, prices = value
    fault = prices_fault(rates_of(mill, choice), rates_of(costs, choice), cost, prices)
    if fault is not None:
        return fault
    more = dearer(mill, costs, told, cost)
    return None if more is None else ("more", more)


def rises(corner, its_cost, cost, y, x):
    """Return whether the product of y with a corner, and x times what it costs above cost, are together above 0."""
    return is_less(ZERO, plus(product(y, corner), times_of(x, minus(its_cost, cost))))


def cost_answers(mill, costs, cost, y, x):
    """Return the ascending list of the turns none of whose corners rises."""
    return [
        k for k, (turn, of_turn) in enumerate(zip(mill, costs))
        if not any([rises(corner, its_cost, cost, y, x) for corner, its_cost in zip(turn, of_turn)])
    ]


def hastes_of(mill, costs, cost):
    """Return the list of what each corner's sizes, and the size of its cost less cost, come to."""
    return [
        plus(sizes(corner), size_of(minus(its_cost, cost)))
        for turn, of_turn in zip(mill, costs) for corner, its_cost in zip(turn, of_turn)
    ]


def paid(room, mill, costs, cost, start, winds):
    """Return the list of the pairs of place and excess behind the laps, one for each wind; NotInside or NoAnswer."""
    first = time_by_haste(room, start, hastes_of(mill, costs, cost))
    pairs, place, excess = [], start, ZERO
    for gone, wind in enumerate(winds):
        lap = gone + 1
        over = ZERO if is_less(excess, ZERO) else excess
        told = cost_answers(mill, costs, cost, taken(place, start), over)
        if not told:
            raise NoAnswer(lap)
        turn, time = told[0], divided(first, (lap, 1))
        corner = wind[turn]
        place = added(place, scaled(mill[turn][corner], time))
        excess = plus(excess, times_of(minus(costs[turn][corner], cost), time))
        pairs.append((place, excess))
    return pairs
