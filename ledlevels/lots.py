"""Which turns can stand in a way from one place to another, and the papers that bar the others."""

from ledlevels.fractions import ONE, ZERO, is_less, plus
from ledlevels.least import least
from ledlevels.plans import risen
from ledlevels.rooms import touched
from ledlevels.rows import added, back, nought, product, taken
from ledlevels.sums import first_falling
from ledlevels.walls import crosses_one, holds, rounds

PAY = (-1, 1)


def spread(columns, target):
    """Return ("used", times), all above 0, that reach target; or ("slope", slope) or ("end", slope).

    Such times are there if each column is used by some times. Else the slope's
    product with each column is 0 or more; of "slope" with some column above 0, and
    with target 0, of "end" with target below 0.
    """
    if not columns:
        return ("used", ()) if target == nought(len(target)) else ("end", back(target))
    # The last column gives each of the others the same time; the more the better.
    together = risen(columns, [ONE] * len(columns))
    answer = least(columns + [together], [ZERO] * len(columns) + [PAY], target)
    if answer[0] == "none":
        return ("end", answer[1])
    amounts = added(answer[1], answer[2]) if answer[0] == "endless" else answer[1]
    each = amounts[-1]
    if each == ZERO:
        return ("slope", back(answer[2]))
    return ("used", tuple([plus(amount, each) for amount in amounts[:-1]]))


def stopped(room, rates, place, lot):
    """Return the least turn of the lot that never comes to stand from the place on, and the walls that stop it.

    Both are None if all turns of the lot are let in the end.
    """
    free, walls = rounds(rates, touched(room, place), lot)
    for k in lot:
        if k not in free:
            return k, tuple(walls)
    return None, None


def turned(rates):
    """Return the list of all rates turned about."""
    return [back(rate) for rate in rates]


def climbing(rates, lot, slope):
    """Return the first turn of the lot whose rate's product with the slope is above 0, None if none is."""
    for k in lot:
        if is_less(ZERO, product(slope, rates[k])):
            return k
    return None


def barred(room, rates, one, other, lot):
    """Return a paper that holds of the lot, None if there is none."""
    k, walls = stopped(room, rates, one, lot)
    if k is not None:
        return ("ahead", k, walls)
    k, walls = stopped(room, turned(rates), other, lot)
    if k is not None:
        return ("behind", k, walls)
    word, told = spread([rates[k] for k in lot], taken(other, one))
    if word == "slope":
        return ("slope", climbing(rates, lot, told), told)
    return ("end", told) if word == "end" else None


def fall_to(room, rates, one, other):
    """Return the list of papers that take turns off, as long as one holds, and the lot that is left."""
    lot, papers = tuple(range(len(rates))), []
    while True:
        paper = barred(room, rates, one, other, lot)
        if paper is None:
            return papers, lot
        papers.append(paper)
        if paper[0] == "end":
            return papers, lot
        lot = tuple([k for k in lot if k != paper[1]])


def is_ended(papers):
    """Return whether the last one of some papers is an end."""
    return len(papers) > 0 and papers[-1][0] == "end"


def left(room, rates, one, other):
    """Return the pair of the lot of all turns of ways and times for them; None if there is no way."""
    papers, lot = fall_to(room, rates, one, other)
    if is_ended(papers):
        return None
    return (lot, list(spread([rates[k] for k in lot], taken(other, one))[1]))


def bars_at(room, rates, place, lot, k, walls):
    """Return whether k is in the lot and crosses one of the walls, which place and lot keep to."""
    touching = touched(room, place)
    if k not in lot or not all([wall in touching for wall in walls]):
        return False
    return crosses_one(rates[k], walls) and holds(rates, lot, walls)


def paper_holds(room, rates, one, other, lot, paper):
    """Return whether a paper holds of the lot."""
    word, told = paper[0], paper[-1]
    if word == "ahead":
        return bars_at(room, rates, one, lot, paper[1], told)
    if word == "behind":
        return bars_at(room, turned(rates), other, lot, paper[1], told)
    gain = product(told, taken(other, one))
    if first_falling([rates[k] for k in lot], told) is not None:
        return False
    if word == "end":
        return is_less(gain, ZERO)
    return paper[1] in lot and is_less(ZERO, product(told, rates[paper[1]])) and not is_less(ZERO, gain)
