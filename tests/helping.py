"""What several tests need: sums of their own, values of any kind, and values changed a little."""

import random
from fractions import Fraction
from math import gcd


def pair(x):
    """The tuple for a Fraction, an integer, or a text like "1/2"."""
    x = Fraction(x)
    return (x.numerator, x.denominator)


def row(*numbers):
    """The row of these numbers."""
    return tuple(pair(x) for x in numbers)


def real(x):
    """The Fraction for a tuple."""
    return Fraction(x[0], x[1])


def dot(one, other):
    """The product of two rows."""
    return sum((real(x) * real(y) for x, y in zip(one, other)), Fraction(0))


def sum_at(columns, amounts, level):
    """The sum of columns times amounts at one level."""
    return sum((real(c[level]) * real(a) for c, a in zip(columns, amounts)), Fraction(0))


def is_pair(value):
    """Whether a value is a fraction in its one form."""
    if type(value) is not tuple or len(value) != 2:
        return False
    n, d = value
    return type(n) is int and type(d) is int and d >= 1 and gcd(n, d) == 1


def are_pairs(value, many):
    """Whether a value is a tuple of so many fractions."""
    return type(value) is tuple and len(value) == many and all(is_pair(x) for x in value)


def deep(many):
    """A tuple of lists of tuples, so many within one another."""
    value = 1
    for k in range(many):
        value = (value,) if k % 2 else [value]
    return value


GREAT = 10 ** 199 + 7

ANY_VALUES = [
    None, True, False, 0, 1, -1, 2, GREAT, -GREAT, "", "a", "least", "none", "mixes", "1/2", " \t\n~", "x" * 2000,
    (), [], {}, (0,), (1,), [1], (0, 1), (1, 1), [0, 1], [1, 1], (True, 1), (1, True), (False, 1), (0, True),
    (1, 2), (2, 4), (1, 0), (0, 2), (1, -2), (GREAT, 1), (1, GREAT), (1, 2, 3), ("1", 1), (None, 1), (1, None),
    ((0, 1),), [(0, 1)], ([0, 1],), ((0, 1), (1, 1)), ((True, 1),), ((1, 1), 1), {0: 1}, {"a": [1]}, ({},), ([],),
    ((),), (((0, 1), (1, 1)),), [((0, 1), (1, 1))], (((1, 1), (0, 1)),), deep(30), list(range(2000)), ("none",),
    ("none", ()), ("least", (), ()), ("mixes",), ("solved", ()), ("bars", ()), ("climbs", ()), ("endless", (), ()),
    [None], [("used", ())], (("barred", ((0, 1),)),), "none", ["none", ((1, 1),)],
]


def replaced(value, rng):
    """A value in the place of another one, near it if it is an integer."""
    if type(value) is int and rng.random() < 0.8:
        return rng.choice([value + 1, value - 1, -value, 0, value * 2, bool(value), str(value), [value], GREAT])
    return rng.choice(ANY_VALUES)


def changed(value, rng):
    """A value with one of its parts changed, left out, put in, doubled or turned about."""
    if type(value) not in (tuple, list) or not value or rng.random() < 0.1:
        if type(value) in (tuple, list) and rng.random() < 0.5:
            return list(value) if type(value) is tuple else tuple(value)
        return replaced(value, rng)
    parts = list(value)
    k = rng.randrange(len(parts))
    deed = rng.random()
    if deed < 0.7:
        parts[k] = changed(parts[k], rng)
    elif deed < 0.78:
        del parts[k]
    elif deed < 0.84:
        parts.insert(k, rng.choice(ANY_VALUES))
    elif deed < 0.92:
        parts.insert(k, parts[k])
    else:
        other = rng.randrange(len(parts))
        parts[k], parts[other] = parts[other], parts[k]
    return tuple(parts) if type(value) is tuple else parts


def random_pair(rng, most, below=True):
    """A fraction with numbers of at most this size."""
    low = -most if below else 0
    return pair(Fraction(rng.randint(low, most), rng.randint(1, most)))


def random_row(rng, many, most, below=True, noughts=0.0):
    """A row of such fractions, some of them 0."""
    return tuple((0, 1) if rng.random() < noughts else random_pair(rng, most, below) for _ in range(many))


def nudged(x, rng):
    """A fraction like x, but for a little."""
    return pair(real(x) + rng.choice([Fraction(1), Fraction(-1), Fraction(1, 7), Fraction(-1, 10 ** 6)]))


def shifted(value, rng):
    """An answer with one of its fractions changed, which keeps its form."""
    spots = []

    def look(part, path):
        if is_pair(part):
            spots.append(path)
        elif type(part) in (tuple, list):
            for k, one in enumerate(part):
                look(one, path + (k,))

    def put(part, path):
        if not path:
            return rng.choice([nudged(part, rng), (0, 1), pair(-real(part))])
        parts = list(part)
        parts[path[0]] = put(parts[path[0]], path[1:])
        return tuple(parts) if type(part) is tuple else parts

    look(value, ())
    if not spots:
        return value
    return put(value, rng.choice(spots))


def rng_for(seed):
    """Numbers that are the same in each run."""
    return random.Random(seed)


def own_elimination(lines, many):
    """Reduce a matrix of Fractions in its first columns; return it with the pivots' columns."""
    table = [list(line) for line in lines]
    leads = []
    for column in range(many):
        top = len(leads)
        spot = next((k for k in range(top, len(table)) if table[k][column] != 0), None)
        if spot is None:
            continue
        table[top], table[spot] = table[spot], table[top]
        lead = table[top][column]
        table[top] = [x / lead for x in table[top]]
        for k in range(len(table)):
            if k != top and table[k][column] != 0:
                factor = table[k][column]
                table[k] = [x - factor * y for x, y in zip(table[k], table[top])]
        leads.append(column)
    return table, leads


def only_solution(columns, target):
    """The Fractions that alone bring the columns to target, None if there are none or many."""
    many = len(columns)
    lines = [[real(c[i]) for c in columns] + [real(target[i])] for i in range(len(target))]
    table, leads = own_elimination(lines, many + 1)
    if leads != list(range(many)):
        return None
    return [table[k][many] for k in range(many)]


def all_basic(columns, target):
    """All amounts from 0 on that reach target and use columns none of which is a sum of the others."""
    found = []
    for mask in range(2 ** len(columns)):
        lot = [k for k in range(len(columns)) if mask >> k & 1]
        if len(lot) > len(target):
            continue
        told = only_solution([columns[k] for k in lot], target)
        if told is not None and all(x >= 0 for x in told):
            amounts = [Fraction(0)] * len(columns)
            for k, x in zip(lot, told):
                amounts[k] = x
            if amounts not in found:
                found.append(amounts)
    return found
