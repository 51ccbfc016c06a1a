"""The corners and rays of all slopes that no rate climbs faster than 1."""

from ledlevels.errors import Flat
from ledlevels.fractions import ONE, ZERO, ascending, is_less
from ledlevels.least import common_lower, shortened, times_whole
from ledlevels.mixing import small_lots
from ledlevels.order import in_order
from ledlevels.rows import back, is_row_ahead, nought, product
from ledlevels.tables import only_amounts, rank


def lots_of_size(many, size):
    """Return the list of all ascending tuples of just so many of the numbers below many."""
    return [lot for lot in small_lots(many, size) if len(lot) == size]


def only_row(rows, products):
    """Return the row that alone has these products with the rows, None if no row or more than one has."""
    return only_amounts([tuple([row[level] for row in rows]) for level in range(len(rows[0]))], products)


def climbs_at_most(row, rates, most):
    """Return whether the row's product with each rate is at most so much."""
    return not any([is_less(most, product(row, rate)) for rate in rates])


def rows_ascending(rows):
    """Return the ascending list of the rows, each once."""
    told = in_order(rows, is_row_ahead)
    return [row for k, row in enumerate(told) if k == 0 or told[k - 1] != row]


def all_corners(rates, levels):
    """Return the corners: slopes that alone have the product 1 with some of the rates."""
    told = [only_row([rates[k] for k in lot], (ONE,) * levels) for lot in lots_of_size(len(rates), levels)]
    return [row for row in told if row is not None and climbs_at_most(row, rates, ONE)]


def along(rows, levels):
    """Return a row but nought whose product with each of the rows is 0, if all such are its multiples, else None."""
    for level in range(levels):
        mark = tuple([ONE if k == level else ZERO for k in range(levels)])
        told = only_row(rows + [mark], nought(len(rows)) + (ONE,))
        if told is not None:
            return told
    return None


def all_rays(rates, levels):
    """Return the rays: rows of integers that are, but for a multiple, alone level along some of the rates."""
    told = [along([rates[k] for k in lot], levels) for lot in lots_of_size(len(rates), levels - 1)]
    rows = [shortened(times_whole(row, common_lower(row))) for row in told if row is not None]
    both = rows + [back(row) for row in rows]
    return [row for row in both if climbs_at_most(row, rates, ZERO)]


def slopes(rates):
    """Return the pair of the ascending lists of all corners and of all rays; Flat if some row is level along all."""
    levels = len(rates[0])
    if rank(rates) < levels:
        raise Flat()
    return (rows_ascending(all_corners(rates, levels)), rows_ascending(all_rays(rates, levels)))


def time_by(told, v):
    """Return the least time for v, told what slopes told of the rates; None if there is none."""
    corners, rays = told
    if any([is_less(ZERO, product(ray, v)) for ray in rays]):
        return None
    return ascending([product(corner, v) for corner in corners])[-1]
