"""Lists brought into an order that a function tells."""


def merged(one, other, is_ahead):
    """Return one list of the items of two lists that are in order."""
    out = []
    first = second = 0
    while first < len(one) and second < len(other):
        if is_ahead(other[second], one[first]):
            out.append(other[second])
            second += 1
        else:
            out.append(one[first])
            first += 1
    return out + one[first:] + other[second:]


def in_order(items, is_ahead):
    """Return a new list of the items, each behind those that are ahead of it."""
    runs = [[item] for item in items]
    while len(runs) > 1:
        odd = runs[len(runs) - len(runs) % 2:]
        runs = [merged(runs[k], runs[k + 1], is_ahead) for k in range(0, len(runs) - 1, 2)] + odd
    return runs[0] if runs else []
