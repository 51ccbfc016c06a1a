"""Whether a mill is held in any weather, or which choice of the weather's drives it out."""

from ledlevels.fractions import ONE, total
from ledlevels.kept import longest_climb
from ledlevels.mills import choices, is_choice, rates_of
from ledlevels.mixing import climbs_fault, mixed
from ledlevels.rows import is_row, nought
from ledlevels.sums import first_below, first_off, is_worded


def held(mill):
    """Return ("held", mixings) or ("driven", choice, slope); TooMany if there are more than 64 choices."""
    mixings = []
    for choice in choices(mill):
        word, told = mixed(rates_of(mill, choice))
        if word == "climbs":
            return ("driven", choice, told)
        mixings.append(told)
    return ("held", mixings)


def is_mixings_form(value, word, many, turns):
    """Return whether a value is a tuple of the word and so many tuples of a fraction for each of so many turns."""
    if not is_worded(value, word, 1) or not isinstance(value[1], (list, tuple)) or len(value[1]) != many:
        return False
    return all([is_row(shares, turns) for shares in value[1]])


def is_choice_form(value, word, mill):
    """Return whether a value is a tuple of the word, a choice of the mill and a row for its levels."""
    if not is_worded(value, word, 2):
        return False
    return is_choice(value[1], mill) and is_row(value[2], len(mill[0][0]))


def mixings_fault(mill, goals, mixings):
    """Return the first fault of mixings, told for each its goal: the choice and the row that it has to come to."""
    for k, (goal, shares) in enumerate(zip(goals, mixings)):
        choice, v = goal
        if first_below(shares) is not None or total(shares) != ONE:
            return ("share", k)
        if first_off(rates_of(mill, choice), shares, v) is not None:
            return ("rates", k)
    return None


def driven_fault(rates, slope):
    """Return the first fault of a slope that these rates should climb, None if there is none."""
    fault = climbs_fault(rates, slope)
    return None if fault is None else ("climbs", fault[1])


def judge_held(mill, value):
    """Return None if value is a right answer of held, else its first fault; TooMany as held."""
    told = choices(mill)
    if is_choice_form(value, "driven", mill):
        return driven_fault(rates_of(mill, value[1]), value[2])
    if is_mixings_form(value, "held", len(told), len(mill)):
        return mixings_fault(mill, [(choice, nought(len(mill[0][0]))) for choice in told], value[1])
    return ("form",)


def driven_by(room, mill, place, choice, slope):
    """Return a time by which the levels are out, if the weather sticks to the choice."""
    return longest_climb(room, rates_of(mill, choice), place, slope)
