import unittest
from itertools import product as all_of

from ledlevels.errors import TooMany
from ledlevels.mills import choices, is_mill, is_rates, rates_of, still
from tests.helping import ANY_VALUES, are_pairs, changed, random_row, rng_for, row

UP, DOWN, SIDE = ((1, 1), (0, 1)), ((-1, 1), (0, 1)), ((0, 1), (1, 2))


def own_is_rates(value, many):
    return type(value) in (list, tuple) and len(value) > 0 and all(are_pairs(rate, many) for rate in value)


def own_is_mill(value, many):
    if type(value) not in (list, tuple) or len(value) == 0:
        return False
    for turn in value:
        if type(turn) is not tuple or not own_is_rates(turn, many):
            return False
        if any(turn[k] == turn[j] for k in range(len(turn)) for j in range(k)):
            return False
    return True


def random_mill(rng, levels, turns, most):
    mill = []
    for _ in range(turns):
        turn = []
        for _ in range(rng.randint(1, most)):
            corner = random_row(rng, levels, 9)
            if corner not in turn:
                turn.append(corner)
        mill.append(tuple(turn))
    return mill


class Mills(unittest.TestCase):
    def test_examples(self):
        self.assertEqual(
            [is_rates([UP, DOWN], 2), is_rates([UP], 1), is_mill([(UP, SIDE), (DOWN,)], 2), is_mill([(UP, UP)], 2),
             is_mill([()], 2)],
            [True, False, True, False, False])
        self.assertEqual(
            [choices([(UP, SIDE), (DOWN,)]), rates_of([(UP, SIDE), (DOWN,)], (1, 0)) == [SIDE, DOWN],
             still([UP]) == [(UP,)]],
            [[(0, 0), (1, 0)], True, True])

    def test_is_rates(self):
        rng = rng_for(1)
        for levels in range(1, 5):
            rates = [random_row(rng, levels, 9) for _ in range(rng.randint(1, 8))]
            for value in [rates, tuple(rates), rates * 200, [rates[0], rates[0]], [list(rates[0])], rates + [None], []]:
                self.assertIs(is_rates(value, levels), own_is_rates(value, levels))
            for value in ANY_VALUES + [[((True, 1),) * levels], [((2, 2),) * levels], [rates[0] + ((0, 1),)]]:
                self.assertIs(is_rates(value, levels), own_is_rates(value, levels), value)
            for _ in range(400):
                value = changed(rates, rng)
                self.assertIs(is_rates(value, levels), own_is_rates(value, levels), value)
        self.assertIs(is_rates((UP, DOWN), 2), True)
        self.assertIs(is_rates([UP, UP], 2), True)

    def test_is_mill(self):
        rng = rng_for(2)
        for levels in range(1, 5):
            mill = random_mill(rng, levels, rng.randint(1, 4), 3)
            for value in [mill, tuple(mill), mill * 60, [list(mill[0])], mill + [()], mill + [mill[0] + mill[0][:1]], []]:
                self.assertIs(is_mill(value, levels), own_is_mill(value, levels))
            for value in ANY_VALUES:
                self.assertIs(is_mill(value, levels), own_is_mill(value, levels), value)
            for _ in range(500):
                value = changed(mill, rng)
                self.assertIs(is_mill(value, levels), own_is_mill(value, levels), value)
        self.assertIs(is_mill(((UP, DOWN),), 2), True)
        self.assertIs(is_mill([[UP, DOWN]], 2), False)
        self.assertIs(is_mill([(UP, DOWN, UP)], 2), False)
        self.assertIs(is_mill([(((1, 1), (True, 1)),)], 2), False)
        self.assertIs(is_mill([(UP, ((True, 1), (0, 1)))], 2), False)
        self.assertIs(is_mill([tuple(row(k, 0) for k in range(600))], 2), True)
        self.assertIs(is_mill([tuple(row(k % 599, 0) for k in range(600))], 2), False)

    def test_choices(self):
        for shape in ((1,), (3,), (2, 3), (3, 1, 2), (4, 4, 4), (64,), (1,) * 8, (2,) * 6, (8, 8), (63,), (1, 64)):
            mill = [tuple(row(k) for k in range(many)) for many in shape]
            told = choices(mill)
            self.assertIs(type(told), list)
            self.assertEqual(told, list(all_of(*[range(many) for many in shape])))
            self.assertEqual(told, sorted(told))
            self.assertEqual(choices(tuple(mill)), told)
            told.append(None)
            self.assertEqual(len(choices(mill)), len(told) - 1)

    def test_too_many_choices(self):
        for shape in ((65,), (13, 5), (2,) * 7, (8,) * 8, (1, 1, 65, 1), (9, 8), (3,) * 4):
            mill = [tuple(row(k) for k in range(many)) for many in shape]
            with self.assertRaises(TooMany):
                choices(mill)

    def test_rates_of_and_still(self):
        rng = rng_for(3)
        for levels in range(1, 5):
            mill = random_mill(rng, levels, 3, 3)
            for choice in choices(mill):
                told = rates_of(mill, choice)
                self.assertEqual(told, [mill[k][choice[k]] for k in range(len(mill))])
                self.assertEqual(rates_of(tuple(mill), choice), told)
                calm = still(told)
                self.assertEqual(calm, [(rate,) for rate in told])
                self.assertIs(is_mill(calm, levels), True)
                self.assertEqual(still(tuple(told)), calm)
                self.assertEqual(rates_of(calm, (0,) * len(calm)), told)

    def test_what_is_told_is_new(self):
        mill, rates = [(UP, SIDE), (DOWN,)], [UP, DOWN]
        one, two = rates_of(mill, (0, 0)), still(rates)
        one.append(SIDE)
        two.append((SIDE,))
        self.assertEqual(rates_of(mill, (0, 0)), [UP, DOWN])
        self.assertEqual(still(rates), [(UP,), (DOWN,)])
        self.assertEqual((mill, rates), ([(UP, SIDE), (DOWN,)], [UP, DOWN]))


if __name__ == "__main__":
    unittest.main()
