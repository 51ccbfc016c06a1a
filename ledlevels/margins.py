"""By how much all rates of a mill may be off, and it is still held."""

from ledlevels.fractions import ONE, ZERO, divided, is_fraction, is_less, negative, plus
from ledlevels.held import is_choice_form, is_mixings_form, mixings_fault
from ledlevels.least import least
from ledlevels.mills import all_choices, is_choice, rates_of
from ledlevels.mixing import mixed, mixing_target, share_columns
from ledlevels.rows import back, is_row, nought, product, scaled, sizes

PAY = (-1, 1)


def rows_around(e, levels):
    """Return the ascending list of all rows of so many e and - e, each once."""
    if e == ZERO:
        return [nought(levels)]
    told = [()]
    for _ in range(levels):
        told = [row + (x,) for row in told for x in (negative(e), e)]
    return told


def goals_of(mill, e):
    """Return the list of the pairs of a choice and a row that it has to come to, if the mill bears e."""
    around = rows_around(e, len(mill[0][0]))
    return [(choice, v) for choice in all_choices(mill) for v in around]


def of_size_one(row):
    """Return the row, which is not nought, over the sum of its sizes."""
    return scaled(row, divided(ONE, sizes(row)))


def shares_for(rates, v):
    """Return the pair of shares by which the rates come to v, and None.

    If there are none, the pair is None and a row y whose sizes come to 1 and whose
    product with each rate is above that with v.
    """
    answer = least(share_columns(rates), [ZERO] * len(rates), v + (ONE,))
    if answer[0] == "none":
        return None, of_size_one(answer[1][:len(v)])
    return answer[1], None


def bears(mill, e):
    """Return ("bears", mixings) or ("gives", choice, y)."""
    mixings = []
    for choice, v in goals_of(mill, e):
        shares, y = shares_for(rates_of(mill, choice), v)
        if shares is None:
            return ("gives", choice, y)
        mixings.append(shares)
    return ("bears", mixings)


def give_fault(rates, y, e, is_just_let):
    """Return the fault of a row y whose products with the rates are to be above - e, or just so much if that is let."""
    if sizes(y) != ONE:
        return ("sizes",)
    for k, rate in enumerate(rates):
        over = plus(product(y, rate), e)
        if is_less(over, ZERO) or (over == ZERO and not is_just_let):
            return ("climbs", k)
    return None


def judge_bears(mill, e, value):
    """Return None if value is a right answer of bears, else its first fault."""
    if is_choice_form(value, "gives", mill):
        return give_fault(rates_of(mill, value[1]), value[2], e, False)
    goals = goals_of(mill, e)
    if is_mixings_form(value, "bears", len(goals), len(mill)):
        return mixings_fault(mill, goals, value[1])
    return ("form",)


def most_towards(rates, v):
    """Return the greatest e by which the rates, which mix, come to e times v, v of 1 and -1 alone.

    Return with it a row y whose sizes come to 1 and whose product with no rate is below - e.
    """
    levels = len(v)
    # One more column takes e times v off again, and is paid for.
    columns = share_columns(rates) + [back(v) + (ZERO,)]
    _, amounts, prices = least(columns, [ZERO] * len(rates) + [PAY], mixing_target(rates))
    # By the last column the product of these prices with v is 1 or more, so their sizes come to 1 or more.
    return amounts[-1], of_size_one(back(prices[:levels]))


def margin(mill):
    """Return None if the mill is driven, else the greatest e that it bears, a choice and a row y that show it."""
    best = None
    around = rows_around(ONE, len(mill[0][0]))
    for choice in all_choices(mill):
        rates = rates_of(mill, choice)
        if mixed(rates)[0] == "climbs":
            return None
        for v in around:
            e, y = most_towards(rates, v)
            if best is None or is_less(e, best[0]):
                best = (e, choice, y)
    return best


def is_margin_form(value, mill):
    """Return whether a value is a tuple of a fraction from 0 on, a choice and a row for the mill's levels."""
    if not isinstance(value, tuple) or len(value) != 3 or not is_fraction(value[0]):
        return False
    return not is_less(value[0], ZERO) and is_choice(value[1], mill) and is_row(value[2], len(mill[0][0]))


def judge_margin(mill, value):
    """Return None if value is a right answer of margin, else its first fault."""
    if value is None:
        return ("held",) if bears(mill, ZERO)[0] == "bears" else None
    if not is_margin_form(value, mill):
        return ("form",)
    e, choice, y = value
    if bears(mill, e)[0] != "bears":
        return ("bears",)
    return give_fault(rates_of(mill, choice), y, e, True)
