import unittest

from ledlevels.usable import judge_usable, usable
from tests.helping import (
    ANY_VALUES, all_basic, are_pairs, changed, dot, random_pair, random_row, real, rng_for, row, shifted, sum_at)

UP, DOWN = ((1, 1),), ((-1, 1),)


def entry_fault(columns, target, k, entry):
    """The fault of an entry, by the words of the document."""
    if entry[0] == "used":
        for j, amount in enumerate(entry[1]):
            if real(amount) < 0:
                return ("below", j)
        for i in range(len(target)):
            if sum_at(columns, entry[1], i) != real(target[i]):
                return ("sum", i)
        return ("idle",) if real(entry[1][k]) == 0 else None
    for j, column in enumerate(columns):
        if dot(entry[1], column) < 0:
            return ("slope", j)
    if dot(entry[1], columns[k]) == 0:
        return ("flat",)
    return ("target",) if dot(entry[1], target) > 0 else None


def own_judge(columns, target, value):
    """What judge_usable has to tell, by the words of the document."""
    reached = all_basic(columns, target) != []
    if value is None:
        return ("reached",) if reached else None
    if type(value) not in (list, tuple) or len(value) != len(columns):
        return ("form",)
    for entry in value:
        if type(entry) is not tuple or len(entry) != 2 or type(entry[0]) is not str:
            return ("form",)
        many = {"used": len(columns), "barred": len(target)}.get(entry[0])
        if many is None or not are_pairs(entry[1], many):
            return ("form",)
    if not reached:
        return ("none",)
    for k, entry in enumerate(value):
        fault = entry_fault(columns, target, k, entry)
        if fault is not None:
            return ("column", k, fault)
    return None


class Usable(unittest.TestCase):
    def test_examples(self):
        self.assertEqual([one[0] for one in usable([UP, DOWN, ((2, 1),)], ((1, 1),))], ["used", "used", "used"])
        self.assertEqual(
            [usable([UP], DOWN), usable([((0, 1),), UP], ((0, 1),))[1][0],
             judge_usable([UP], UP, [("used", ((0, 1),))])],
            [None, "barred", ("column", 0, ("sum", 0))])

    def right(self, columns, target):
        value = usable(columns, target)
        self.assertIsNone(own_judge(columns, target, value), (columns, target, value))
        self.assertIsNone(judge_usable(columns, target, value))
        if value is not None:
            self.assertIs(type(value), list)
            self.assertIsNone(judge_usable(tuple(columns), target, tuple(value)))
        self.assertEqual(usable(tuple(columns), target), value)
        return value

    def test_used_barred_and_none(self):
        rng = rng_for(1)
        words = []
        for _ in range(400):
            levels, many, most = rng.randint(1, 4), rng.randint(1, 7), rng.choice([1, 2, 999999])
            columns = [random_row(rng, levels, most, noughts=0.4) for _ in range(many)]
            for target in (random_row(rng, levels, most, noughts=0.4), row(*[0] * levels), columns[0]):
                value = self.right(columns, target)
                words.extend(["none"] if value is None else [entry[0] for entry in value])
        for word in ("none", "used", "barred"):
            self.assertGreater(words.count(word), 100)

    def test_eight_columns_of_five(self):
        rng = rng_for(2)
        for most in (1, 9, 999999):
            columns = [random_row(rng, 5, most) for _ in range(8)]
            amounts = [random_pair(rng, 9, False) for _ in columns]
            amounts[3] = (0, 1)
            target = row(*[sum_at(columns, amounts, i) for i in range(5)])
            self.assertEqual(len(self.right(columns, target)), 8)
            self.right(columns, row(0, 0, 0, 0, 0))

    def test_noughts(self):
        zero = row(0, 0)
        self.assertEqual([one[0] for one in self.right([zero], zero)], ["used"])
        self.assertEqual([one[0] for one in self.right([zero, row(1, 0)], zero)], ["used", "barred"])
        self.assertIsNone(self.right([zero], row(0, 1)))
        self.assertEqual([one[0] for one in self.right([row(1, 0), row(0, 1)], row(1, 0))], ["used", "barred"])

    def test_none_as_the_value(self):
        self.assertEqual(judge_usable([UP], UP, None), ("reached",))
        self.assertEqual(judge_usable([UP], row(0), None), ("reached",))
        self.assertIsNone(judge_usable([UP], DOWN, None))

    def test_each_fault(self):
        columns, target = [row(1, 0), row(0, 1), row(0, -1)], row(1, 0)
        used = ("used", row(1, 0, 0))
        both = ("used", row(1, 1, 1))
        cases = [
            ([used, both, both], None), ([both, both, both], None), ((used, both, both), None),
            ([used, both], ("form",)), ([used, both, both, both], ("form",)), ([used, both, None], ("form",)),
            ([used, both, list(both)], ("form",)), ([used, both, ("used", row(1, 1))], ("form",)),
            ([used, both, ("barred", row(1))], ("form",)), ([used, both, ("free", row(1, 0))], ("form",)),
            ([used, both, ("used", ((True, 1), (1, 1), (1, 1)))], ("form",)), ("use", ("form",)), ({}, ("form",)),
            ([used, used, both], ("column", 1, ("idle",))), ([used, both, used], ("column", 2, ("idle",))),
            ([("used", row(1, -1, -1)), used, both], ("column", 0, ("below", 1))),
            ([("used", row(2, 0, 0)), used, both], ("column", 0, ("sum", 0))),
            ([used, ("used", row(1, 1, 0)), used], ("column", 1, ("sum", 1))),
            ([used, ("barred", row(0, 1)), used], ("column", 1, ("slope", 2))),
            ([("barred", row(-1, 1)), used, used], ("column", 0, ("slope", 0))),
            ([("barred", row(1, 0)), used, used], ("column", 0, ("target",))),
            ([used, ("barred", row(1, 0)), used], ("column", 1, ("flat",))),
        ]
        for value, fault in cases:
            self.assertEqual(judge_usable(columns, target, value), fault, value)
            self.assertEqual(own_judge(columns, target, value), fault, value)
        self.assertEqual(judge_usable([UP], DOWN, [("used", row(0))]), ("none",))
        self.assertEqual(judge_usable([UP], DOWN, [("used", row(0, 0))]), ("form",))
        self.assertEqual(judge_usable([UP], DOWN, [("barred", row(1))]), ("none",))

    def test_any_value(self):
        rng = rng_for(3)
        told = []
        for _ in range(50):
            levels, many = rng.randint(1, 2), rng.randint(1, 4)
            columns = [random_row(rng, levels, 1, noughts=0.4) for _ in range(many)]
            target = random_row(rng, levels, 1, noughts=0.5)
            value = usable(columns, target)
            others = [changed(value, rng) for _ in range(40)] + [shifted(value, rng) for _ in range(40)]
            others.append([("barred", random_row(rng, levels, 1, noughts=0.5)) for _ in columns])
            others.append([("used", random_row(rng, many, 1, noughts=0.5)) for _ in columns])
            for k in range(many if value else 0):
                for slope in (random_row(rng, levels, 1), random_row(rng, levels, 1, noughts=0.5)):
                    others.append(value[:k] + [("barred", slope)] + value[k + 1:])
            for other in others + ANY_VALUES:
                fault = own_judge(columns, target, other)
                self.assertEqual(judge_usable(columns, target, other), fault, other)
                told.append("right" if fault is None else (fault[2][0] if fault[0] == "column" else fault[0]))
        for fault in ("right", "form", "none", "reached", "below", "sum", "idle", "slope", "flat", "target"):
            self.assertIn(fault, set(told))


if __name__ == "__main__":
    unittest.main()
