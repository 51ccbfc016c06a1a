"""The live rule: it looks at the present place alone, and keeps a mill that is held inside in any weather."""

from ledlevels.errors import NoAnswer, NotInside
from ledlevels.fractions import ONE, ZERO, ascending, divided, is_less, times_of
from ledlevels.rooms import HALF, inside, least_slack
from ledlevels.rows import added, product, scaled, sizes, taken


def answers(mill, y):
    """Return the ascending list of the turns none of whose corners has a product with y above 0."""
    return [k for k, turn in enumerate(mill) if not any([is_less(ZERO, product(y, corner)) for corner in turn])]


def time_by_haste(room, start, hastes):
    """Return the least slack over twice the greatest haste, 1 if this is 0; NotInside if start is not inside."""
    if not inside(room, start):
        raise NotInside(0)
    haste = ascending(hastes)[-1]
    if haste == ZERO:
        return ONE
    return divided(times_of(least_slack(room, start), HALF), haste)


def first_time(room, mill, start):
    """Return how long the first lap is; NotInside if start is not inside."""
    return time_by_haste(room, start, [sizes(corner) for turn in mill for corner in turn])


def played(room, mill, start, winds):
    """Return the list of the places behind the laps, one for each wind; NotInside or NoAnswer."""
    first = first_time(room, mill, start)
    places, place = [], start
    for gone, wind in enumerate(winds):
        lap = gone + 1
        told = answers(mill, taken(place, start))
        if not told:
            raise NoAnswer(lap)
        turn = told[0]
        place = added(place, scaled(mill[turn][wind[turn]], divided(first, (lap, 1))))
        places.append(place)
    return places
