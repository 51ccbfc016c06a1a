import unittest
from fractions import Fraction
from itertools import combinations
from math import gcd, lcm

from ledlevels.errors import Flat
from ledlevels.mixing import mixed
from ledlevels.slopes import slopes, time_by
from ledlevels.times import time_for
from tests.helping import are_pairs, dot, own_elimination, pair, random_row, real, rng_for, row
from tests.walking import random_rates

EAST, WEST, NORTH = ((1, 1), (0, 1)), ((-1, 1), (0, 1)), ((1, 1), (2, 1))


def unknown(rows, goals, levels):
    """The only Fractions that have these products with the rows, None if there are none or many."""
    lines = [[real(x) for x in one] + [Fraction(goal)] for one, goal in zip(rows, goals)]
    table, leads = own_elimination(lines, levels + 1)
    return [table[k][levels] for k in range(levels)] if leads == list(range(levels)) else None


def free_of(rows, levels):
    """Fractions, not all 0, whose products with the rows are 0; None if there is not just one such line."""
    table, leads = own_elimination([[real(x) for x in one] for one in rows], levels)
    if len(leads) != levels - 1:
        return None
    spare = next(k for k in range(levels) if k not in leads)
    out = [Fraction(0)] * levels
    out[spare] = Fraction(1)
    for line, lead in zip(table, leads):
        out[lead] = -line[spare]
    return out


def whole(numbers):
    """The integers without a common divisor on the same ray."""
    common = lcm(*[x.denominator for x in numbers])
    told = [int(x * common) for x in numbers]
    return [n // gcd(*told) for n in told]


def own_slopes(rates):
    """The corners and rays, by a search over all lots of free rates."""
    levels = len(rates[0])
    corners, rays = [], []
    for lot in combinations(rates, levels):
        d = unknown(lot, [1] * levels, levels)
        if d is not None and d not in corners and all(sum(x * real(y) for x, y in zip(d, one)) <= 1 for one in rates):
            corners.append(d)
    for lot in combinations(rates, levels - 1):
        line = free_of(lot, levels)
        for sign in (1, -1) if line is not None else ():
            r = whole([x * sign for x in line])
            if r not in rays and all(sum(x * real(y) for x, y in zip(r, one)) <= 0 for one in rates):
                rays.append(r)
    return [row(*d) for d in sorted(corners)], [row(*r) for r in sorted(rays)]


def is_flat(rates):
    """Whether some row but nought has the product 0 with each rate."""
    return len(own_elimination([[real(x) for x in rate] for rate in rates], len(rates[0]))[1]) < len(rates[0])


class Slopes(unittest.TestCase):
    def right(self, rates):
        told = slopes(rates)
        self.assertEqual([type(told), type(told[0]), type(told[1])], [tuple, list, list])
        self.assertEqual(told, own_slopes(rates), rates)
        self.assertEqual(slopes(tuple(rates)), told)
        levels = len(rates[0])
        for one in told[0] + told[1]:
            self.assertTrue(are_pairs(one, levels))
        for ray in told[1]:
            self.assertTrue(all(d == 1 for _, d in ray))
            self.assertEqual(gcd(*[n for n, _ in ray]), 1)
        self.assertNotEqual(told[0], [])
        return told

    def test_examples(self):
        self.assertEqual(
            [slopes([((1, 1),), ((-2, 1),), ((1, 1),)]), slopes([((1, 1),)])],
            [([((-1, 2),), ((1, 1),)], []), ([((1, 1),)], [((-1, 1),)])])
        self.assertEqual(slopes([EAST, NORTH]), ([((1, 1), (0, 1))], [((-2, 1), (1, 1)), ((0, 1), (-1, 1))]))
        self.assertEqual(
            [time_by(slopes([EAST, NORTH]), ((3, 1), (2, 1))), time_by(slopes([EAST, NORTH]), ((0, 1), (2, 1)))],
            [(3, 1), None])
        with self.assertRaises(Flat):
            slopes([EAST, WEST])

    def test_against_a_search(self):
        rng = rng_for(1)
        kinds = []
        for _ in range(250):
            levels = rng.randint(1, 3)
            rates = random_rates(rng, rng.randint(1, 8), levels, rng.choice([1, 2, 9, 999999]), rng.choice([0, 0.5]))
            if is_flat(rates):
                with self.assertRaises(Flat):
                    slopes(rates)
                kinds.append("flat")
                continue
            corners, rays = self.right(rates)
            kinds.append((len(corners) > 1, len(rays) > 0))
            for _ in range(6):
                v = random_row(rng, levels, rng.choice([9, 10 ** 12 - 1]), noughts=0.2)
                told = time_by((corners, rays), v)
                self.assertEqual(told, time_for(rates, v))
                self.assertEqual(time_by((tuple(corners), tuple(rays)), v), told)
            if mixed(rates)[0] == "climbs":
                self.assertNotEqual(rays, [])
        for kind in ("flat", (False, True), (True, True), (True, False)):
            self.assertGreater(kinds.count(kind), 10, kind)

    def test_flat_exactly_where_a_row_is_level(self):
        for rates in ([row(0)], [row(1, 1)], [row(1, 2), row(-2, -4), row(0, 0)], [row(1, 0, 0), row(0, 1, 0)],
                      [row(1, 2, 3), row(0, 1, 1), row(1, 3, 4), row(2, 5, 7)]):
            with self.assertRaises(Flat):
                slopes(rates)
        for rates in ([row(-3)], [row(0), row(1)], [row(1, 2), row(-2, "-400001/100000")],
                      [row(1, 2, 3), row(0, 1, 1), row(1, 3, 5)]):
            self.right(rates)

    def test_rates_that_mix(self):
        cross = [row(1, 0), row(-1, 0), row(0, 1), row(0, -1)]
        self.assertEqual(self.right(cross), ([row(-1, -1), row(-1, 1), row(1, -1), row(1, 1)], []))
        self.assertEqual(self.right(cross + [row(1, 1)])[0], [row(-1, -1), row(-1, 1), row(0, 1), row(1, -1), row(1, 0)])
        self.assertEqual(self.right(cross[:3]), ([row(-1, 1), row(1, 1)], [row(0, -1)]))
        half = [row("1/2", 0, 0), row(-2, 0, 0), row(0, 3, 0), row(0, "-1/3", 0), row(0, 0, 1), row(0, 0, -1)]
        corners, rays = self.right(half + [row(0, 0, 0)])
        self.assertEqual([len(corners), rays], [8, []])

    def test_alike_rates_and_multiples(self):
        self.assertEqual(self.right([row(1), row(1), row("1/2"), row(2)]), ([row("1/2")], [row(-1)]))
        self.assertEqual(self.right([EAST, EAST, NORTH, row("1/2", 1), row(0, 0)]), slopes([EAST, NORTH]))
        self.assertEqual(self.right([row(0), row(-3)]), ([row("-1/3")], [row(1)]))

    def test_three_levels_with_many_corners_on_one_plane(self):
        square = [row(x, y, 1) for x in (-1, 1) for y in (-1, 1)]
        self.right(square)
        self.right(square + [row(x, y, -1) for x in (-1, 1) for y in (-1, 1)])
        self.right(square + [row(0, 0, 1), row(1, 0, 1), row(0, 0, -1)])
        self.right([row(1, 0, 0), row(0, 1, 0), row(0, 0, 1)])

    def test_eight_rates_of_six_figures(self):
        rng = rng_for(2)
        for _ in range(12):
            self.right(random_rates(rng, 8, 3, 999999, 0))
            self.right(random_rates(rng, 8, 2, 999999, 0))

    def test_time_by(self):
        told = slopes([row(1, 0), row(-1, 0), row(0, 1)])
        self.assertEqual([time_by(told, row(0, 0)), time_by(told, row(-3, 2)), time_by(told, row(1, 0))],
                         [(0, 1), (5, 1), (1, 1)])
        self.assertEqual([time_by(told, row(0, -1)), time_by(told, row(9, "-1/9"))], [None, None])
        self.assertEqual(time_by(told, row("1/999999999999", 0)), (1, 999999999999))

    def test_lists_are_new(self):
        rates = [EAST, NORTH]
        told = slopes(rates)
        told[0].append(None)
        told[1].clear()
        self.assertEqual(slopes(rates), ([row(1, 0)], [row(-2, 1), row(0, -1)]))
        self.assertEqual(rates, [EAST, NORTH])


if __name__ == "__main__":
    unittest.main()
