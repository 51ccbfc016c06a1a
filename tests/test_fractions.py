import unittest
from fractions import Fraction

from ledlevels.errors import BadFraction
from ledlevels.fractions import (
    ascending, divided, fraction, is_fraction, is_less, minus, plus, size_of, times_of, total)
from tests.helping import ANY_VALUES, GREAT, is_pair, pair, random_pair, real, rng_for

SIXTY = 10 ** 59 + 9


def numbers():
    """Fractions of all kinds: noughts, signs, wholes, great ones."""
    rng = rng_for(1)
    some = [pair(Fraction(n, d)) for n in range(-4, 5) for d in (1, 2, 3, 4, 6)]
    return some + [random_pair(rng, 999999) for _ in range(15)] + [random_pair(rng, 10 * SIXTY) for _ in range(15)]


class Fractions(unittest.TestCase):
    def test_examples(self):
        self.assertEqual(
            [fraction(4, -6), plus((1, 2), (1, 3)), minus((1, 2), (1, 3)), times_of((2, 3), (3, 4)),
             divided((1, 2), (-3, 4))],
            [(-2, 3), (5, 6), (1, 6), (1, 2), (-2, 3)])
        self.assertEqual(
            [is_less((1, 3), (1, 2)), size_of((-2, 3)), ascending([(1, 2), (-1, 1), (1, 3), (1, 2)])],
            [True, (2, 3), [(-1, 1), (1, 3), (1, 2)]])

    def test_fraction(self):
        for n in list(range(-12, 13)) + [SIXTY, -6 * SIXTY]:
            for d in [-12, -6, -4, -3, -2, -1, 1, 2, 3, 5, 12, SIXTY, -4 * SIXTY]:
                told = fraction(n, d)
                self.assertEqual(told, pair(Fraction(n, d)))
                self.assertTrue(is_fraction(told))
        self.assertEqual(fraction(0, -7), (0, 1))
        self.assertEqual(fraction(-6 * SIXTY, -4 * SIXTY), (3, 2))

    def test_fraction_of_what_is_no_integer_or_over_nought(self):
        for value in ANY_VALUES:
            if type(value) is int:
                continue
            for n, d in ((value, 1), (1, value), (value, value), (value, 0)):
                with self.assertRaises(BadFraction):
                    fraction(n, d)
        for n in (0, 1, -1, GREAT):
            with self.assertRaises(BadFraction):
                fraction(n, 0)

    def test_is_fraction(self):
        for value in ANY_VALUES + [(-3, 4), (3, -4), (6, 4), (0, 3), (-1, 1), (GREAT, GREAT), (2 * GREAT, 2)]:
            self.assertIs(is_fraction(value), is_pair(value), value)
        for n in range(-6, 7):
            for d in range(-3, 7):
                self.assertIs(is_fraction((n, d)), is_pair((n, d)))
                self.assertIs(is_fraction([n, d]), False)
                self.assertIs(is_fraction((n, d, 1)), False)

    def test_sums_and_products(self):
        for x in numbers():
            for y in numbers():
                a, b = real(x), real(y)
                self.assertEqual(plus(x, y), pair(a + b))
                self.assertEqual(minus(x, y), pair(a - b))
                self.assertEqual(times_of(x, y), pair(a * b))
                self.assertIs(is_less(x, y), a < b)
                if b == 0:
                    with self.assertRaises(BadFraction):
                        divided(x, y)
                else:
                    self.assertEqual(divided(x, y), pair(a / b))

    def test_sums_keep_the_one_form(self):
        for x, y in (((1, 2), (1, 2)), ((1, 6), (1, 3)), ((5, 6), (1, 6)), ((1, 2), (-1, 2)), ((3, 4), (5, 12))):
            self.assertTrue(is_fraction(plus(x, y)))
            self.assertTrue(is_fraction(minus(x, y)))
            self.assertTrue(is_fraction(times_of(x, y)))

    def test_size_of(self):
        for x in numbers():
            self.assertEqual(size_of(x), pair(abs(real(x))))

    def test_total(self):
        rng = rng_for(2)
        for many in range(20):
            some = [random_pair(rng, 999) for _ in range(many)]
            kept = list(some)
            self.assertEqual(total(some), pair(sum((real(x) for x in some), Fraction(0))))
            self.assertEqual(some, kept)

    def test_ascending(self):
        rng = rng_for(3)
        for many in list(range(12)) + [300]:
            for most in (2, 9, 10 * SIXTY):
                some = [random_pair(rng, most) for _ in range(many)]
                for value in (list(some), tuple(some)):
                    kept = list(value)
                    told = ascending(value)
                    self.assertIs(type(told), list)
                    self.assertIsNot(told, value)
                    self.assertEqual(told, [pair(x) for x in sorted(set(real(x) for x in some))])
                    self.assertEqual(list(value), kept)
        self.assertEqual(ascending([]), [])
        self.assertEqual(ascending(((1, 2), (1, 2))), [(1, 2)])

    def test_ascending_is_new_each_time(self):
        some = [(1, 2)]
        told = ascending(some)
        told.append((3, 1))
        self.assertEqual(some, [(1, 2)])
        self.assertEqual(ascending(some), [(1, 2)])


if __name__ == "__main__":
    unittest.main()
