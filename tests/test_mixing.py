import unittest

from ledlevels.mixing import corners, judge_mixed, mixed
from tests.helping import (
    ANY_VALUES, all_basic, are_pairs, changed, dot, pair, random_row, real, rng_for, row, shifted, sum_at)

UP, DOWN = ((1, 1),), ((-1, 1),)


def own_judge(rows, value):
    """What judge_mixed has to tell, by the words of the document."""
    if type(value) is not tuple or len(value) != 2 or type(value[0]) is not str:
        return ("form",)
    many = {"mixes": len(rows), "climbs": len(rows[0])}.get(value[0])
    if many is None or not are_pairs(value[1], many):
        return ("form",)
    if value[0] == "climbs":
        for k, one in enumerate(rows):
            if dot(value[1], one) <= 0:
                return ("row", k)
        return None
    for k, share in enumerate(value[1]):
        if real(share) < 0:
            return ("below", k)
    if sum(real(share) for share in value[1]) != 1:
        return ("whole",)
    for i in range(len(rows[0])):
        if sum_at(rows, value[1], i) != 0:
            return ("sum", i)
    return None


def own_corners(rows):
    """All mixings of which no row could be left out, by a search over all lots of rows."""
    columns = [one + ((1, 1),) for one in rows]
    target = row(*[0] * len(rows[0]) + [1])
    found = all_basic(columns, target)
    lots = [frozenset(k for k, x in enumerate(shares) if x) for shares in found]
    least = [shares for shares, lot in zip(found, lots) if not any(other < lot for other in lots)]
    return [tuple(pair(x) for x in shares) for shares in sorted(least)]


class Mixed(unittest.TestCase):
    def test_examples(self):
        self.assertEqual(
            [mixed([UP, ((-2, 1),)]), mixed([UP])[0], judge_mixed([UP], ("climbs", ((1, 2),)))],
            [("mixes", ((2, 3), (1, 3))), "climbs", None])

    def right(self, rows):
        value = mixed(rows)
        self.assertIsNone(own_judge(rows, value), (rows, value))
        self.assertIsNone(judge_mixed(rows, value))
        self.assertEqual(mixed(tuple(rows)), value)
        return value[0]

    def test_both_answers(self):
        rng = rng_for(1)
        words = []
        for _ in range(500):
            levels, many = rng.randint(1, 4), rng.randint(1, 7)
            rows = [random_row(rng, levels, rng.choice([1, 3, 999999]), noughts=0.3) for _ in range(many)]
            words.append(self.right(rows))
            self.assertIs(words[-1] == "mixes", own_corners(rows) != [])
        self.assertGreater(words.count("mixes"), 50)
        self.assertGreater(words.count("climbs"), 50)

    def test_nought_rows_and_alike_rows(self):
        for levels in (1, 2, 5, 12):
            zero, one = row(*[0] * levels), row(*[3] * levels)
            self.assertEqual(self.right([zero]), "mixes")
            self.assertEqual(self.right([one]), "climbs")
            self.assertEqual(self.right([one, zero]), "mixes")
            self.assertEqual(self.right([one, one, one]), "climbs")
            self.assertEqual(self.right([one, row(*[-1] * levels), one]), "mixes")

    def test_one_level_and_twelve_and_many_rows(self):
        rng = rng_for(2)
        for levels in (1, 2, 6, 12):
            for many in (1, 8, 13, 200):
                for most in (1, 9, 999999):
                    rows = [random_row(rng, levels, most) for _ in range(many)]
                    self.right(rows)
                    rows = [(pair(abs(real(one[0])) + 1),) + one[1:] for one in rows]
                    self.assertEqual(self.right(rows), "climbs")

    def test_rows_round_in_a_ring_of_levels(self):
        for levels in (2, 5, 12):
            rows = [row(*[2 if i == k else -1 if i == (k + 1) % levels else 0 for i in range(levels)])
                    for k in range(levels)]
            self.assertEqual(self.right(rows), "climbs")
            self.assertEqual(self.right(rows + [row(*[-1] * levels)]), "mixes")

    def test_each_fault(self):
        rows = [row(1, 0), row(-1, 0), row(0, 1), row(0, -1)]
        cases = [
            (("mixes", row("1/4", "1/4", "1/4", "1/4")), None), (("mixes", row(0, 0, "1/2", "1/2")), None),
            (("mixes", row("1/2", "-1/2", "1/2", "1/2")), ("below", 1)), (("mixes", row(-1, -1, 3, 0)), ("below", 0)),
            (("mixes", row(0, 0, 0, 0)), ("whole",)), (("mixes", row(1, 1, 0, 0)), ("whole",)),
            (("mixes", row(1, 0, 0, 0)), ("sum", 0)), (("mixes", row(0, 0, 1, 0)), ("sum", 1)),
            (("climbs", row(0, 1)), ("row", 0)), (("climbs", row(1, 1)), ("row", 1)), (("climbs", row(1)), ("form",)),
            (("climbs", row(1, 1, 1)), ("form",)), (("mixes", row(1, 1)), ("form",)), (["climbs", row(1, 1)], ("form",)),
            (("mixes", [(1, 4)] * 4), ("form",)), (("climbs", ((True, 1), (1, 1))), ("form",)), (None, ("form",)),
        ]
        for value, fault in cases:
            self.assertEqual(judge_mixed(rows, value), fault, value)
            self.assertEqual(own_judge(rows, value), fault, value)
        self.assertEqual(judge_mixed([row(1, 0), row(0, 1)], ("climbs", row(1, 0))), ("row", 1))
        self.assertIsNone(judge_mixed([row(1, 0), row(0, 1)], ("climbs", row(1, "1/9"))))

    def test_any_value(self):
        rng = rng_for(3)
        told = []
        for _ in range(80):
            rows = [random_row(rng, 2, 2, noughts=0.2) for _ in range(rng.randint(1, 4))]
            value = mixed(rows)
            others = [changed(value, rng) for _ in range(40)] + [shifted(value, rng) for _ in range(30)]
            others.append(("climbs", random_row(rng, 2, 2)))
            others.append(("mixes", tuple(pair(real((1, len(rows)))) for _ in rows)))
            for other in others + ANY_VALUES:
                fault = own_judge(rows, other)
                self.assertEqual(judge_mixed(rows, other), fault, other)
                told.append("right" if fault is None else fault[0])
        for fault in ("right", "form", "below", "whole", "sum", "row"):
            self.assertIn(fault, set(told))


class Corners(unittest.TestCase):
    def test_examples(self):
        self.assertEqual(corners([UP, DOWN, ((0, 1),)]), [((0, 1), (0, 1), (1, 1)), ((1, 2), (1, 2), (0, 1))])

    def test_against_a_search(self):
        rng = rng_for(4)
        found = 0
        for _ in range(250):
            levels, many = rng.randint(1, 4), rng.randint(1, 7)
            rows = [random_row(rng, levels, rng.choice([1, 2, 999999]), noughts=0.3) for _ in range(many)]
            told = corners(rows)
            self.assertIs(type(told), list)
            self.assertEqual(told, own_corners(rows))
            self.assertEqual(corners(tuple(rows)), told)
            self.assertIs(told == [], mixed(rows)[0] == "climbs")
            for shares in told:
                self.assertIsNone(judge_mixed(rows, ("mixes", shares)))
            found += len(told)
        self.assertGreater(found, 300)

    def test_eight_rows(self):
        rng = rng_for(5)
        for levels in range(1, 6):
            rows = [random_row(rng, levels, 999999) for _ in range(8)]
            self.assertEqual(corners(rows), own_corners(rows))
            rows = [row(*[rng.randint(-1, 1) for _ in range(levels)]) for _ in range(8)]
            self.assertEqual(corners(rows), own_corners(rows))

    def test_noughts_and_alike_rows(self):
        zero = row(0, 0)
        self.assertEqual(corners([zero, zero]), [row(0, 1), row(1, 0)])
        self.assertEqual(corners([row(1, 0), row(0, 1)]), [])
        self.assertEqual(corners([UP, UP, DOWN]), [row(0, "1/2", "1/2"), row("1/2", 0, "1/2")])
        told = corners([zero])
        told.append(None)
        self.assertEqual(corners([zero]), [row(1)])


if __name__ == "__main__":
    unittest.main()
