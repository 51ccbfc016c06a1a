import unittest
from fractions import Fraction

from ledlevels.least import judge_least, least
from tests.helping import (
    ANY_VALUES, all_basic, are_pairs, changed, dot, pair, random_pair, random_row, real, rng_for, row, shifted, sum_at)

UP, DOWN = ((1, 1),), ((-1, 1),)
FAULTS = ("form", "below", "sum", "price", "apart", "slope", "target", "more", "drift", "cost")


def reaching(columns, target, amounts):
    """The first fault of amounts, by sums of the test's own."""
    for k, x in enumerate(amounts):
        if real(x) < 0:
            return ("below", k)
    for i in range(len(target)):
        if sum_at(columns, amounts, i) != real(target[i]):
            return ("sum", i)
    return None


def own_judge(columns, costs, target, value):
    """What judge_least has to tell, by the words of the document."""
    many, levels = len(columns), len(target)
    if type(value) is not tuple or not value or type(value[0]) is not str:
        return ("form",)
    if value[0] == "none":
        if len(value) != 2 or not are_pairs(value[1], levels):
            return ("form",)
        for k, column in enumerate(columns):
            if dot(value[1], column) < 0:
                return ("slope", k)
        return None if dot(value[1], target) < 0 else ("target",)
    last = {"least": levels, "endless": many}.get(value[0])
    if last is None or len(value) != 3 or not are_pairs(value[1], many) or not are_pairs(value[2], last):
        return ("form",)
    fault = reaching(columns, target, value[1])
    if fault is not None:
        return fault
    if value[0] == "least":
        for k, column in enumerate(columns):
            if dot(value[2], column) > real(costs[k]):
                return ("price", k)
        return None if dot(value[2], target) == dot(costs, value[1]) else ("apart",)
    for k, x in enumerate(value[2]):
        if real(x) < 0:
            return ("more", k)
    for i in range(levels):
        if sum_at(columns, value[2], i) != 0:
            return ("drift", i)
    return None if dot(costs, value[2]) < 0 else ("cost",)


def with_helpers(lines, limits, costs):
    """Columns for lines of at most these limits: the told ones, and one of its own for each line."""
    columns = [row(*[line[k] for line in lines]) for k in range(len(costs))]
    for i in range(len(lines)):
        columns.append(row(*[1 if k == i else 0 for k in range(len(lines))]))
    return columns, [pair(c) for c in costs] + [(0, 1)] * len(lines), row(*limits)


class Least(unittest.TestCase):
    def right(self, columns, costs, target):
        """The answer of least, held against the document."""
        value = least(columns, costs, target)
        self.assertIsNone(own_judge(columns, costs, target, value), (columns, costs, target, value))
        self.assertIsNone(judge_least(columns, costs, target, value))
        return value

    def test_examples(self):
        self.assertEqual(
            [least([UP], [(2, 1)], ((3, 1),)), least([UP], [(2, 1)], ((-3, 1),))[0],
             least([UP, DOWN], [(1, 1), (-2, 1)], ((1, 1),))[0]],
            [("least", ((3, 1),), ((2, 1),)), "none", "endless"])
        more = ("endless", ((1, 1), (0, 1)), ((1, 1), (1, 1)))
        apart = ("least", ((3, 1),), ((1, 1),))
        self.assertEqual(
            [judge_least([UP, DOWN], [(1, 1), (-2, 1)], ((1, 1),), more),
             judge_least([UP], [(2, 1)], ((3, 1),), apart)],
            [None, ("apart",)])

    def test_small_ones_against_all_amounts(self):
        rng = rng_for(1)
        words = []
        for _ in range(700):
            levels, many, most = rng.randint(1, 3), rng.randint(1, 6), rng.choice([1, 2, 9])
            columns = [random_row(rng, levels, most, noughts=0.3) for _ in range(many)]
            costs = [random_pair(rng, most) for _ in range(many)]
            target = random_row(rng, levels, most, noughts=0.4)
            value = self.right(columns, costs, target)
            words.append(value[0])
            basic = all_basic(columns, target)
            self.assertIs(value[0] == "none", basic == [])
            if value[0] == "least":
                prices = [dot(costs, [pair(x) for x in amounts]) for amounts in basic]
                self.assertEqual(dot(costs, value[1]), min(prices))
        for word in ("least", "none", "endless"):
            self.assertGreater(words.count(word), 50)

    def test_levels_up_to_twelve(self):
        rng = rng_for(2)
        for levels in range(1, 13):
            for most in (1, 5, 999999):
                for below in (False, True):
                    columns = [random_row(rng, levels, most, noughts=0.3) for _ in range(2 * levels)]
                    costs = [random_pair(rng, most, below) for _ in columns]
                    self.right(columns, costs, random_row(rng, levels, most))
                    self.right(columns, costs, row(*[0] * levels))

    def test_two_hundred_columns_of_twelve(self):
        rng = rng_for(3)
        for most in (1, 9, 999999):
            columns = [random_row(rng, 12, most) for _ in range(200)]
            costs = [random_pair(rng, most, False) for _ in columns]
            target = random_row(rng, 12, most)
            self.assertEqual(self.right(columns, costs, target)[0], "least")
            costs[7] = (-999999, 1)
            self.right(columns, costs, target)
            up = [((abs(column[0][0]), column[0][1]),) + column[1:] for column in columns]
            self.assertEqual(self.right(up, costs, ((-1, 1),) + target[1:])[0], "none")

    def test_many_ties(self):
        rng = rng_for(4)
        for many in (3, 20, 200):
            for levels in (2, 4, 12):
                for target in (row(*[0] * levels), row(*[1] * levels), row(*[0] * (levels - 1) + [1])):
                    columns = [row(*[rng.randint(-1, 1) for _ in range(levels)]) for _ in range(many)]
                    self.right(columns, [pair(rng.randint(-1, 2)) for _ in columns], target)
                    self.right(columns, [(0, 1)] * many, target)
                    self.right([columns[0]] * many, [(1, 1)] * many, target)

    def test_exchanges_that_go_round_if_they_are_careless(self):
        # Each of these is known from books: ties at 0 bring the first lot of columns back.
        quarter = Fraction(1, 4)
        columns, costs, target = with_helpers(
            [[quarter, -60, Fraction(-1, 25), 9], [Fraction(1, 2), -90, Fraction(-1, 50), 3], [0, 0, 1, 0]],
            [0, 0, 1], [Fraction(-3, 4), 150, Fraction(-1, 50), 6])
        value = self.right(columns, costs, target)
        self.assertEqual(dot(costs, value[1]), Fraction(-1, 20))
        columns, costs, target = with_helpers(
            [[quarter, -8, -1, 9], [Fraction(1, 2), -12, Fraction(-1, 2), 3], [0, 0, 1, 0]],
            [0, 0, 1], [Fraction(-3, 4), 20, Fraction(-1, 2), 6])
        value = self.right(columns, costs, target)
        self.assertEqual(dot(costs, value[1]), Fraction(-5, 4))
        columns, costs, target = with_helpers(
            [[Fraction(1, 2), Fraction(-11, 2), Fraction(-5, 2), 9],
             [Fraction(1, 2), Fraction(-3, 2), Fraction(-1, 2), 1], [1, 0, 0, 0]],
            [0, 0, 1], [-10, 57, 9, 24])
        value = self.right(columns, costs, target)
        self.assertEqual(dot(costs, value[1]), -1)
        columns, costs, target = with_helpers(
            [[-2, -9, 1, 9], [Fraction(1, 3), 1, Fraction(-1, 3), -2]], [0, 0], [-2, -3, 1, 12])
        self.assertEqual(self.right(columns, costs, target)[0], "endless")
        columns, costs, target = with_helpers(
            [[1, -2, -3, 4], [4, -3, -2, 1], [1, 1, 1, 1]], [0, 0, 1], [1, -1, 1, -1])
        self.right(columns, costs, target)

    def test_long_ways_round(self):
        # A cube bent so that careful exchanges may go by each of its corners.
        for levels in range(2, 13):
            lines = [[2 ** (i - j + 1) if j < i else int(i == j) for j in range(levels)] for i in range(levels)]
            limits = [5 ** (i + 1) for i in range(levels)]
            columns, costs, target = with_helpers(lines, limits, [-2 ** (levels - 1 - j) for j in range(levels)])
            value = self.right(columns, costs, target)
            self.assertEqual(dot(costs, value[1]), -5 ** levels)

    def test_levels_that_tell_the_same(self):
        # Some levels follow from others, so that no lot of columns is as long as there are levels.
        rng = rng_for(5)
        for _ in range(200):
            short = [random_row(rng, 2, 3) for _ in range(5)]
            goal = random_row(rng, 2, 3)
            columns = [one + (pair(real(one[0]) + real(one[1])), one[0]) for one in short]
            costs = [random_pair(rng, 3) for _ in columns]
            self.right(columns, costs, goal + (pair(real(goal[0]) + real(goal[1])), goal[0]))
            self.right(columns, costs, goal + (pair(real(goal[0]) + real(goal[1]) + 1), goal[0]))

    def test_nought_columns(self):
        zero = row(0, 0)
        self.assertEqual(self.right([zero], [(1, 1)], zero)[:2], ("least", row(0)))
        self.assertEqual(self.right([zero], [(-1, 1)], zero)[0], "endless")
        self.assertEqual(self.right([zero], [(-1, 1)], row(0, 1))[0], "none")
        self.assertEqual(self.right([zero, row(1, 0), row(0, 1)], [(-1, 1), (0, 1), (0, 1)], row(1, 2))[0], "endless")

    def test_tuples_in_the_place_of_lists(self):
        columns, costs, target = [row(1, 0), row(0, 1), row(1, 1)], [(1, 1), (2, 1), (1, 2)], row(2, 1)
        kept = list(columns), list(costs)
        value = least(columns, costs, target)
        self.assertEqual(least(tuple(columns), tuple(costs), target), value)
        self.assertEqual(judge_least(tuple(columns), tuple(costs), target, value), None)
        self.assertEqual((columns, costs), kept)
        self.assertEqual(judge_least(columns, costs, target, list(value)), ("form",))
        self.assertEqual(judge_least(columns, costs, target, ("least", list(value[1]), value[2])), ("form",))

    def test_answers_are_passed_again(self):
        rng = rng_for(6)
        columns = [random_row(rng, 6, 999999) for _ in range(40)]
        value = self.right(columns, [random_pair(rng, 999, False) for _ in columns], random_row(rng, 6, 99))
        self.assertEqual(value[0], "least")
        self.right(columns + [value[2]], [(1, 1)] * 41, value[2])

    def test_each_fault(self):
        columns, costs, target = [row(1, 0), row(0, 1), row(-1, -1)], [(1, 1), (1, 1), (-3, 1)], row(1, 2)
        cases = [
            (("least", row(0, 0), row(0, 0)), ("form",)),
            (("least", row(0, 0, 0), row(0, 0, 0)), ("form",)),
            (("least", row(0, 0, 0)), ("form",)),
            (("most", row(0, 0, 0), row(0, 0)), ("form",)),
            (("none", row(0, 0), row(0, 0)), ("form",)),
            (("endless", row(0, 0, 0), row(0, 0)), ("form",)),
            (("least", ((True, 1), (2, 1), (0, 1)), row(0, 0)), ("form",)),
            (("least", row(1, -1, -1), row(9, 9)), ("below", 1)),
            (("least", row(1, 0, 0), row(9, 9)), ("sum", 1)),
            (("least", row(0, 0, 0), row(9, 9)), ("sum", 0)),
            (("least", row(1, 2, 0), row(2, 2)), ("price", 0)),
            (("least", row(1, 2, 0), row(0, 2)), ("price", 1)),
            (("least", row(1, 2, 0), row(1, 1)), ("price", 2)),
            (("none", row(-1, -1)), ("slope", 0)),
            (("none", row(1, -1)), ("slope", 1)),
            (("none", row(1, 1)), ("slope", 2)),
            (("none", row(0, 0)), ("target",)),
            (("endless", row(2, 3, -1), row(-1, 0, 0)), ("below", 2)),
            (("endless", row(1, 3, 0), row(-1, 0, 0)), ("sum", 1)),
            (("endless", row(1, 2, 0), row(1, 1, -1)), ("more", 2)),
            (("endless", row(1, 2, 0), row(1, 0, 0)), ("drift", 0)),
            (("endless", row(1, 2, 0), row(1, 2, 1)), ("drift", 1)),
            (("endless", row(1, 2, 0), row(0, 0, 0)), ("cost",)),
            (("endless", row(1, 2, 0), row(1, 1, 1)), None),
        ]
        for value, fault in cases:
            self.assertEqual(judge_least(columns, costs, target, value), fault, value)
            self.assertEqual(own_judge(columns, costs, target, value), fault, value)
        self.assertEqual(judge_least([UP], [(2, 1)], ((3, 1),), ("least", row(3), row(2))), None)
        self.assertEqual(judge_least([UP], [(2, 1)], ((3, 1),), ("least", row(3), row(1))), ("apart",))
        self.assertEqual(judge_least([UP], [(2, 1)], ((-3, 1),), ("none", row("1/7"))), None)

    def test_any_value(self):
        rng = rng_for(7)
        told = []
        for _ in range(60):
            levels, many = rng.randint(1, 3), rng.randint(1, 4)
            columns = [random_row(rng, levels, 2, noughts=0.3) for _ in range(many)]
            costs = [random_pair(rng, 2) for _ in range(many)]
            target = random_row(rng, levels, 2, noughts=0.3)
            value = least(columns, costs, target)
            others = [changed(value, rng) for _ in range(40)] + [shifted(value, rng) for _ in range(40)]
            others.append(("none", random_row(rng, levels, 2)))
            others.append(("least", random_row(rng, many, 2, False), random_row(rng, levels, 2)))
            for other in others + ANY_VALUES:
                fault = own_judge(columns, costs, target, other)
                self.assertEqual(judge_least(columns, costs, target, other), fault, other)
                told.append("right" if fault is None else fault[0])
        for fault in FAULTS + ("right",):
            self.assertIn(fault, set(told))

    def test_great_values_are_judged(self):
        rng = rng_for(8)
        columns = [random_row(rng, 12, 999999) for _ in range(100)] * 2
        halves = [pair(Fraction(rng.randint(1, 10 ** 199), rng.randint(10 ** 199, 10 ** 200 - 1))) for _ in range(100)]
        amounts = tuple(halves) + tuple(pair(1 - real(x)) for x in halves)
        target = tuple(pair(sum(real(column[i]) for column in columns[:100])) for i in range(12))
        slope = tuple(halves[:12])
        costs = [random_pair(rng, 999999) for _ in columns]
        for value in (("least", amounts, slope), ("endless", amounts, amounts), ("none", slope)):
            fault = judge_least(columns, costs, target, value)
            self.assertIn(fault[0], ("price", "drift", "slope"))


if __name__ == "__main__":
    unittest.main()
