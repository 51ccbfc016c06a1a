import unittest

from ledlevels.tables import judge_solved, rank, solved
from tests.helping import (
    ANY_VALUES, are_pairs, changed, dot, own_elimination, pair, random_pair, random_row, real, rng_for, row, shifted,
    sum_at)

ONE, TWO = ((1, 1), (0, 1)), ((2, 1), (0, 1))


def own_judge(columns, target, value):
    """What judge_solved has to tell, by the words of the document."""
    if type(value) is not tuple or len(value) != 2 or type(value[0]) is not str:
        return ("form",)
    many = {"solved": len(columns), "bars": len(target)}.get(value[0])
    if many is None or not are_pairs(value[1], many):
        return ("form",)
    if value[0] == "solved":
        for i in range(len(target)):
            if sum_at(columns, value[1], i) != real(target[i]):
                return ("sum", i)
        return None
    for k, column in enumerate(columns):
        if dot(value[1], column) != 0:
            return ("column", k)
    return ("target",) if dot(value[1], target) == 0 else None


def own_rank(rows):
    return len(own_elimination([[real(x) for x in one] for one in rows], len(rows[0]))[1])


class Rank(unittest.TestCase):
    def test_examples(self):
        self.assertEqual([rank([ONE, TWO]), rank([ONE, ((0, 1), (1, 1))]), rank([((0, 1),)])], [1, 2, 0])

    def test_noughts_and_alike_rows(self):
        for many in range(1, 6):
            zero, one = row(*[0] * many), row(*range(1, many + 1))
            self.assertEqual(rank([zero]), 0)
            self.assertEqual(rank([zero] * 4), 0)
            self.assertEqual(rank([one]), 1)
            self.assertEqual(rank([one] * 3), 1)
            self.assertEqual(rank([zero, one, zero, one]), 1)

    def test_rows_made_of_others(self):
        rng = rng_for(1)
        for _ in range(300):
            levels = rng.randint(1, 5)
            base = [random_row(rng, levels, rng.choice([1, 9, 999999]), noughts=0.2)
                    for _ in range(rng.randint(1, 4))]
            known = own_rank(base)
            self.assertEqual(rank(base), known)
            self.assertEqual(rank(tuple(base)), known)
            made = list(base)
            for _ in range(3):
                factors = [rng.randint(-3, 3) for _ in base]
                made.append(row(*[sum(f * real(one[i]) for f, one in zip(factors, base)) for i in range(levels)]))
            self.assertEqual(rank(made), known)
            rng.shuffle(made)
            times = [rng.choice([real((1, 3)), -2, 7]) for _ in made]
            self.assertEqual(rank([row(*[real(x) * t for x in one]) for one, t in zip(made, times)]), known)

    def test_what_was_passed_stays(self):
        rows = [ONE, TWO, ((0, 1), (1, 2))]
        kept = list(rows)
        self.assertEqual(rank(rows), 2)
        self.assertEqual(rows, kept)


class Solved(unittest.TestCase):
    def test_examples(self):
        self.assertEqual(
            [solved([ONE], ((3, 1), (0, 1))), solved([ONE], ((0, 1), (1, 1)))[0]], [("solved", ((3, 1),)), "bars"])
        self.assertEqual(
            [judge_solved([ONE, TWO], ONE, ("solved", ((3, 1), (-1, 1)))),
             judge_solved([ONE], TWO, ("solved", ((1, 1),)))],
            [None, ("sum", 0)])

    def right(self, columns, target):
        value = solved(columns, target)
        self.assertIsNone(own_judge(columns, target, value), (columns, target, value))
        self.assertIsNone(judge_solved(columns, target, value))
        self.assertEqual(solved(tuple(columns), target), value)
        together = own_elimination([[real(x) for x in one] for one in list(columns) + [target]], len(target))[1]
        self.assertIs(value[0] == "solved", len(together) == own_rank(columns))
        return value[0]

    def test_targets_reached_and_not(self):
        rng = rng_for(2)
        words = []
        for _ in range(600):
            levels, many, most = rng.randint(1, 5), rng.randint(1, 8), rng.choice([1, 3, 999999])
            columns = [random_row(rng, levels, most, noughts=0.4) for _ in range(many)]
            words.append(self.right(columns, random_row(rng, levels, most, noughts=0.3)))
            amounts = [random_pair(rng, 3) for _ in columns]
            self.assertEqual(self.right(columns, row(*[sum_at(columns, amounts, i) for i in range(levels)])), "solved")
            self.assertEqual(self.right(columns, row(*[0] * levels)), "solved")
        self.assertGreater(words.count("bars"), 50)
        self.assertGreater(words.count("solved"), 50)

    def test_each_fault(self):
        columns, target = [row(1, 0, 0), row(0, 1, 0)], row(1, 2, 0)
        cases = [
            (("solved", row(1, 2)), None), (("solved", row(0, 0)), ("sum", 0)), (("solved", row(1, 1)), ("sum", 1)),
            (("bars", row(1, 0, 0)), ("column", 0)), (("bars", row(0, 1, 0)), ("column", 1)),
            (("bars", row(0, 0, 1)), ("target",)), (("bars", row(0, 0, 0)), ("target",)),
            (("bars", row(0, 0)), ("form",)), (("solved", row(1, 2, 0)), ("form",)), (("solved", row(1)), ("form",)),
            (["solved", row(1, 2)], ("form",)), (("solved", list(row(1, 2))), ("form",)),
            (("solved", ((True, 1), (2, 1))), ("form",)), (("solved", ((1, 1), (4, 2))), ("form",)),
            (("solved", row(1, 2), row(0)), ("form",)), (("solved",), ("form",)), (("solves", row(1, 2)), ("form",)),
        ]
        for value, fault in cases:
            self.assertEqual(judge_solved(columns, target, value), fault, value)
        self.assertIsNone(judge_solved(columns, row(1, 2, 3), ("bars", row(0, 0, -1))))
        self.assertEqual(judge_solved(columns, row(1, 2, 3), ("solved", row(1, 2))), ("sum", 2))

    def test_any_value(self):
        rng = rng_for(3)
        told = []
        for _ in range(60):
            levels, many = rng.randint(1, 3), rng.randint(1, 3)
            columns = [random_row(rng, levels, 2, noughts=0.4) for _ in range(many)]
            target = random_row(rng, levels, 2, noughts=0.3)
            value = solved(columns, target)
            others = [changed(value, rng) for _ in range(40)] + [shifted(value, rng) for _ in range(20)]
            others.append(("bars", random_row(rng, levels, 1, noughts=0.5)))
            for other in others + ANY_VALUES:
                fault = own_judge(columns, target, other)
                self.assertEqual(judge_solved(columns, target, other), fault, other)
                told.append("right" if fault is None else fault[0])
        for fault in ("right", "form", "sum", "column", "target"):
            self.assertIn(fault, set(told))

    def test_great_answers_are_passed_again(self):
        rng = rng_for(4)
        columns = [random_row(rng, 5, 999999) for _ in range(5)]
        target = random_row(rng, 5, 999999)
        value = solved(columns, target)
        self.assertIsNone(own_judge(columns, target, value))
        again = solved([value[1], row(1, 0, 0, 0, 0)], value[1])
        self.assertIsNone(judge_solved([value[1], row(1, 0, 0, 0, 0)], value[1], again))
        self.assertEqual(rank([value[1], target, pair_row(value[1])]), 2)


def pair_row(one):
    """The row times 2/3."""
    return tuple(pair(real(x) * 2 / 3) for x in one)


if __name__ == "__main__":
    unittest.main()
