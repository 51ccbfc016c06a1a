"""Ways through several places, and which places lead to one another."""

from ledlevels.lots import left
from ledlevels.ways import way


def there_and_back(room, rates, one, other):
    """Return whether there is a way from one to other and one back."""
    return left(room, rates, one, other) is not None and left(room, rates, other, one) is not None


def through(room, rates, places):
    """Return ("ways", plans), a plan from each place to the next one; or ("bars", n)."""
    plans = []
    for n, (one, other) in enumerate(zip(places[:-1], places[1:])):
        word, told = way(room, rates, one, other)
        if word == "fall":
            return ("bars", n)
        plans.append(told)
    return ("ways", plans)


def place_lots(room, rates, places):
    """Return the list of the lots of numbers of places that lead to one another."""
    lots = []
    for n, place in enumerate(places):
        # Whoever leads there and back to one place of a lot does so to all of it.
        home = [k for k, lot in enumerate(lots) if there_and_back(room, rates, places[lot[0]], place)]
        lots = [lot + (n,) if k in home else lot for k, lot in enumerate(lots)]
        if not home:
            lots.append((n,))
    return lots
