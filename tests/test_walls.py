import unittest

from ledlevels.walls import crosses, holds, leaves, lets, rounds
from tests.helping import random_row, rng_for, row
from tests.walking import own_crosses, own_leaves, own_rounds, own_walls, random_rates

ZERO, ONE, LESS = (0, 1), (1, 1), (-1, 1)
THREE = [(ONE, ZERO), (LESS, ONE), (ZERO, LESS)]


def own_lets(rates, walls):
    return [k for k in range(len(rates)) if not any(own_crosses(rates[k], wall) for wall in walls)]


def own_holds(rates, lot, walls):
    for k in lot:
        if k in own_lets(rates, walls) and any(own_leaves(rates[k], wall) for wall in walls):
            return False
    return True


def chain(rng, levels, walls):
    """Rates each of which leaves a wall, and may cross those that earlier ones leave."""
    order = [wall for wall in walls]
    rng.shuffle(order)
    rates = []
    for k, (i, s) in enumerate(order):
        numbers = [0] * levels
        numbers[i] = -s
        for j, t in order[:k]:
            numbers[j] = t * rng.choice([0, 1])
        rates.append(row(*numbers))
    rng.shuffle(rates)
    return rates


def some_walls(rng, levels):
    """Walls in any order, no level twice."""
    walls = [(i, rng.choice([-1, 1])) for i in range(levels) if rng.random() < 0.7]
    rng.shuffle(walls)
    return walls


class Walls(unittest.TestCase):
    def test_examples(self):
        self.assertEqual(
            [crosses((ONE, ZERO), (0, 1)), crosses((ONE, ZERO), (0, -1)), leaves((ONE, ZERO), (0, -1)),
             leaves((ONE, ZERO), (1, 1))],
            [True, False, True, False])
        self.assertEqual(
            [lets(THREE, [(0, -1), (1, -1)]), lets(THREE, [(0, 1)]), lets(THREE, []),
             holds(THREE, [0, 1, 2], [(0, -1), (1, -1)])],
            [[0], [1, 2], [0, 1, 2], False])
        self.assertEqual(
            [rounds(THREE, [(0, -1), (1, -1)], [0, 1, 2]), rounds(THREE, [(0, -1), (1, -1)], [1, 2])],
            [([0, 1, 2], []), ([], [(0, -1), (1, -1)])])
        self.assertEqual(
            rounds([(ONE, ZERO), (LESS, ZERO), (ZERO, ONE)], [(1, 1)], [0, 1, 2]), ([0, 1], [(1, 1)]))

    def test_signs(self):
        rng = rng_for(1)
        for levels in range(1, 5):
            for rate in [random_row(rng, levels, 999999, noughts=0.3) for _ in range(30)] + [row(*[0] * levels)]:
                for wall in own_walls(levels):
                    self.assertIs(crosses(rate, wall), own_crosses(rate, wall))
                    self.assertIs(leaves(rate, wall), own_leaves(rate, wall))
        self.assertEqual([crosses(row("-1/9"), (0, -1)), leaves(row("-1/9"), (0, -1))], [True, False])
        self.assertEqual([crosses(row("-1/9"), (0, 1)), leaves(row("-1/9"), (0, 1))], [False, True])

    def test_lets_and_holds(self):
        rng = rng_for(2)
        told = []
        for _ in range(400):
            levels, turns = rng.randint(1, 4), rng.randint(1, 8)
            rates = random_rates(rng, turns, levels, 2, 0.5)
            walls = some_walls(rng, levels)
            if rng.random() < 0.2:
                walls += [rng.choice(own_walls(levels))]
            lot = [rng.randrange(turns) for _ in range(rng.randint(0, turns))]
            self.assertEqual(lets(rates, walls), own_lets(rates, walls))
            told.append(holds(rates, lot, walls))
            self.assertIs(told[-1], own_holds(rates, lot, walls))
            self.assertEqual(lets(tuple(rates), tuple(walls)), lets(rates, walls[::-1]))
            self.assertIs(holds(tuple(rates), tuple(lot), tuple(walls)), holds(rates, lot[::-1] + lot, walls[::-1]))
        self.assertGreater(min(told.count(True), told.count(False)), 60)

    def test_no_walls_and_no_turns(self):
        self.assertEqual([lets(THREE, ()), holds(THREE, [0, 1, 2], []), holds(THREE, [], [(0, -1)])],
                         [[0, 1, 2], True, True])
        self.assertEqual([rounds(THREE, [], [2, 0]), rounds(THREE, [(1, -1), (0, 1)], []), rounds(THREE, [], [])],
                         [([0, 2], []), ([], [(0, 1), (1, -1)]), ([], [])])
        self.assertIs(holds([row(0, 1)], [0], [(1, -1)]), False)
        self.assertIs(holds([row(1, 1)], [0], [(1, -1), (0, 1)]), True)
        self.assertIs(holds([row(1, 0)], [0], [(1, -1)]), True)


class Rounds(unittest.TestCase):
    def test_against_walls_taken_off_one_by_one(self):
        rng = rng_for(3)
        off = []
        for _ in range(500):
            levels, turns = rng.randint(1, 4), rng.randint(1, 8)
            rates, walls = random_rates(rng, turns, levels, 2, rng.choice([0.5, 0.8])), some_walls(rng, levels)
            if rng.random() < 0.3:
                rates = chain(rng, levels, walls) + rates
            lot = [rng.randrange(len(rates)) for _ in range(rng.randint(0, 2 * len(rates)))]
            told = rounds(rates, walls, lot)
            self.assertEqual(told, own_rounds(rates, walls, lot), (rates, walls, lot))
            self.assertEqual([type(told), type(told[0]), type(told[1])], [tuple, list, list])
            self.assertEqual(rounds(tuple(rates), tuple(walls[::-1]), tuple(lot[::-1] + lot)), told)
            self.assertIs(holds(rates, lot, told[1]), True)
            off.append(len(walls) - len(told[1]))
        for many in range(5):
            self.assertGreater(off.count(many), 5)

    def test_walls_that_come_off_behind_others(self):
        # Each turn crosses the walls ahead of its own and leaves its own.
        rates = [row(1, 0, 0, 0), row(-1, 1, 0, 0), row(-1, -1, 1, 0), row(-1, -1, -1, 1)]
        corner = [(2, -1), (0, -1), (3, -1), (1, -1)]
        self.assertEqual(rounds(rates, corner, [3, 1, 2, 0]), ([0, 1, 2, 3], []))
        self.assertEqual(rounds(rates, corner, [3, 2, 0]), ([0], [(1, -1), (2, -1), (3, -1)]))
        self.assertEqual(rounds(rates, corner, [3, 2, 1, 1]), ([], [(0, -1), (1, -1), (2, -1), (3, -1)]))
        self.assertEqual(rounds(rates, corner, [0, 0, 1]), ([0, 1], [(2, -1), (3, -1)]))

    def test_what_was_passed_stays(self):
        rates, walls, lot = list(THREE), [(1, -1), (0, -1)], [2, 0, 1, 0]
        free, rest = rounds(rates, walls, lot)
        free.append(9)
        rest.append(9)
        self.assertEqual(rounds(rates, walls, lot), ([0, 1, 2], []))
        free, rest = rounds(rates, [], [])
        rest.append(9)
        none = []
        lets(rates, walls).append(9)
        self.assertEqual(rounds(rates, none, none), ([], []))
        self.assertEqual((rates, walls, lot, none), (THREE, [(1, -1), (0, -1)], [2, 0, 1, 0], []))
        walls = [(0, 1)]
        rounds(THREE, walls, [])[1].append(9)
        self.assertEqual(walls, [(0, 1)])


if __name__ == "__main__":
    unittest.main()
