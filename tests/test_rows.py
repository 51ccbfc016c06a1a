import unittest

from ledlevels.rows import added, back, is_row, is_row_ahead, nought, product, scaled, sizes, taken
from tests.helping import ANY_VALUES, are_pairs, changed, dot, pair, random_pair, random_row, real, rng_for, row

UP, SKEW = ((1, 1), (0, 1)), ((1, 2), (-3, 1))


class Rows(unittest.TestCase):
    def test_examples(self):
        self.assertEqual(
            [added(UP, SKEW), taken(UP, SKEW), scaled(SKEW, (2, 1)), back(SKEW), nought(2)],
            [((3, 2), (-3, 1)), ((1, 2), (3, 1)), ((1, 1), (-6, 1)), ((-1, 2), (3, 1)), ((0, 1), (0, 1))])
        self.assertEqual(
            [product(UP, SKEW), product(SKEW, SKEW), sizes(SKEW), is_row(SKEW, 2), is_row(SKEW, 3),
             is_row([(1, 1)], 1)],
            [(1, 2), (37, 4), (7, 2), True, False, False])

    def test_is_row(self):
        rng = rng_for(1)
        for many in range(1, 5):
            good = random_row(rng, many, 9)
            self.assertIs(is_row(good, many), True)
            for value in ANY_VALUES + [list(good), good[:-1], good + ((0, 1),), good[:-1] + ([0, 1],)]:
                self.assertIs(is_row(value, many), are_pairs(value, many), value)
            for _ in range(500):
                value = changed(good, rng)
                self.assertIs(is_row(value, many), are_pairs(value, many), value)
        self.assertIs(is_row(((True, 1),), 1), False)
        self.assertIs(is_row(((1, True),), 1), False)
        self.assertIs(is_row(((False, 1), (1, 1)), 2), False)
        self.assertIs(is_row(((2, 4),), 1), False)

    def test_sums(self):
        rng = rng_for(2)
        for many in range(1, 13):
            for most in (3, 999999, 10 ** 60 - 1):
                one, other = random_row(rng, many, most, noughts=0.2), random_row(rng, many, most, noughts=0.2)
                x = random_pair(rng, most)
                for factor in (x, (0, 1), (1, 1), (-1, 1)):
                    self.assertEqual(scaled(one, factor), tuple(pair(real(y) * real(factor)) for y in one))
                self.assertEqual(added(one, other), tuple(pair(real(a) + real(b)) for a, b in zip(one, other)))
                self.assertEqual(taken(one, other), tuple(pair(real(a) - real(b)) for a, b in zip(one, other)))
                self.assertEqual(back(one), tuple(pair(-real(a)) for a in one))
                self.assertEqual(product(one, other), pair(dot(one, other)))
                self.assertEqual(sizes(one), pair(sum(abs(real(a)) for a in one)))
                self.assertEqual(nought(many), ((0, 1),) * many)
                self.assertEqual(taken(one, one), nought(many))
                self.assertEqual(sizes(nought(many)), (0, 1))

    def test_the_order_of_rows(self):
        rng = rng_for(3)
        for _ in range(300):
            one, other = random_row(rng, 2, 3), random_row(rng, 2, 3)
            self.assertIs(is_row_ahead(one, other), [real(x) for x in one] < [real(x) for x in other])
        self.assertIs(is_row_ahead(row(1, 2), row(1, 2)), False)


if __name__ == "__main__":
    unittest.main()
