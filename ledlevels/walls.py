"""Walls of a room: which turns cross or leave them, and which come off."""


def crosses(rate, wall):
    """Return whether a rate crosses a wall."""
    level, side = wall
    return side * rate[level][0] > 0


def leaves(rate, wall):
    """Return whether a rate leaves a wall."""
    level, side = wall
    return side * rate[level][0] < 0


def crosses_one(rate, walls):
    """Return whether a rate crosses one of the walls."""
    return any([crosses(rate, wall) for wall in walls])


def leaves_one(rate, walls):
    """Return whether a rate leaves one of the walls."""
    return any([leaves(rate, wall) for wall in walls])


def lets(rates, walls):
    """Return the ascending list of the numbers of the turns that cross none of the walls."""
    return [k for k, rate in enumerate(rates) if not crosses_one(rate, walls)]


def holds(rates, lot, walls):
    """Return whether each turn of the lot crosses one of the walls or leaves none of them."""
    return all([crosses_one(rates[k], walls) or not leaves_one(rates[k], walls) for k in lot])


def rounds(rates, walls, lot):
    """Return the lists of the lot's turns that go on and of the walls that stay, when walls came off."""
    rest = sorted(walls)
    while True:
        free = [k for k in lets(rates, rest) if k in lot]
        staying = [wall for wall in rest if not any([leaves(rates[k], wall) for k in free])]
        if len(staying) == len(rest):
            return free, rest
        rest = staying
