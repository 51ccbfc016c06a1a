"""Amounts that reach a target, found by exchanging one column at a time, over integers.

COLUMNS here are lists of integers, GOAL is such a list. Beside the columns there
are HELPERS, one for each level: columns that are nought but at this level. They
have the numbers behind those of the columns.

A STAND is a tuple (lot, table, unit): the lot tells which column (or helper)
stands in each line of the table. A line of the table, over the unit (from 1 on),
is the amount of its column, by which the lot reaches the goal, and a row whose
product with any column tells how much of the line's column this one is worth.
These integers are parts of determinants, so that the divisions leave no rest.
"""


def inner(one, other):
    """Return the sum of the products of two lists of integers, item by item."""
    return sum([x * y for x, y in zip(one, other)])


def first_stand(many, goal):
    """Return the stand in which the helpers alone, behind so many columns, reach the goal."""
    table = []
    for k, amount in enumerate(goal):
        row = [0] * len(goal)
        row[k] = -1 if amount < 0 else 1
        table.append([abs(amount)] + row)
    return ([many + k for k in range(len(goal))], table, 1)


def prices_of(stand, costs):
    """Return the row, times the unit, whose product with each column of the lot is its cost."""
    lot, table, _ = stand
    worth = [costs[k] for k in lot]
    return [inner(worth, [line[level + 1] for line in table]) for level in range(len(table))]


def cost_of_lot(stand, costs):
    """Return what the amounts of the lot cost, times the unit."""
    lot, table, _ = stand
    return inner([costs[k] for k in lot], [line[0] for line in table])


def most_helpful(gains, factors):
    """Return the number of the greatest gain above 0, each over its factor; None if none is."""
    best = None
    for k, gain in enumerate(gains):
        if gain > 0 and (best is None or gain * factors[best] > gains[best] * factors[k]):
            best = k
    return best


def ends_sooner(line, share, other, other_share):
    """Return whether a line, over its share, is less than another one, looked at item by item."""
    for x, y in zip(line, other):
        if x * other_share != y * share:
            return x * other_share < y * share
    return False


def leaving(table, shares):
    """Return the number of the line that has to leave, None if none has to.

    Of lines that come down to 0 together the one with the least row leaves. Two
    such lines never have alike rows; so each exchange makes the cost and the
    prices less, looked at one after the other, and no lot of columns comes twice.
    """
    out = None
    for k, share in enumerate(shares):
        if share > 0 and (out is None or ends_sooner(table[k], share, table[out], shares[out])):
            out = k
    return out


def exchanged(stand, out, column, shares):
    """Return the stand in which this column is in the place of the line out."""
    lot, table, unit = stand
    pivot = table[out]
    new = []
    for k, line in enumerate(table):
        if k == out:
            new.append(pivot)
        else:
            new.append([(x * shares[out] - shares[k] * y) // unit for x, y in zip(line, pivot)])
    return (lot[:out] + [column] + lot[out + 1:], new, shares[out])


def shares_of(stand, column):
    """Return how much of each line's column one of this column is worth, times the unit."""
    return [inner(line[1:], column) for line in stand[1]]


def settled(stand, columns, factors, costs, is_let):
    """Exchange columns that are let, as long as that makes the cost less.

    Return the pair of the last stand and None; or, if there is no least cost, the
    number of a column that could go on for ever in the place of None.
    """
    while True:
        prices, unit = prices_of(stand, costs), stand[2]
        gains = [inner(prices, column) - costs[k] * unit if is_let[k] else 0 for k, column in enumerate(columns)]
        best = most_helpful(gains, factors)
        if best is None:
            return stand, None
        shares = shares_of(stand, columns[best])
        out = leaving(stand[1], shares)
        if out is None:
            return stand, best
        stand = exchanged(stand, out, best, shares)
