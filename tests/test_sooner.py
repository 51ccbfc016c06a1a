import unittest
from fractions import Fraction

from ledlevels.sooner import alike_times, judge_sooner, never_slower
from ledlevels.times import time_for
from tests.helping import (
    ANY_VALUES, all_basic, are_pairs, changed, dot, pair, random_pair, random_row, real, rng_for, row, shifted, sum_at)
from tests.walking import random_rates

EAST, WEST, NORTH = ((1, 1), (0, 1)), ((-1, 1), (0, 1)), ((1, 1), (2, 1))


def in_time(rates, v):
    """Whether times of at most 1 reach v, by a search."""
    return min([sum(amounts) for amounts in all_basic(rates, v)], default=2) <= 1


def own_judge(rates, others, value):
    """What judge_sooner has to tell, by the words of the document."""
    if type(value) is not tuple or not value or type(value[0]) is not str:
        return ("form",)
    if value[0] == "quick":
        if len(value) != 2 or type(value[1]) not in (list, tuple) or len(value[1]) != len(others):
            return ("form",)
        for times in value[1]:
            if not are_pairs(times, len(rates)) or any(real(time) < 0 for time in times):
                return ("form",)
        for k, (v, times) in enumerate(zip(others, value[1])):
            if any(sum_at(rates, times, i) != real(v[i]) for i in range(len(v))):
                return ("sum", k)
            if sum(real(time) for time in times) > 1:
                return ("time", k)
        return None
    if value[0] != "slower" or len(value) != 3 or type(value[1]) is not int or not 0 <= value[1] < len(others):
        return ("form",)
    if not are_pairs(value[2], len(rates[0])):
        return ("form",)
    for k, rate in enumerate(rates):
        if dot(value[2], rate) > 1:
            return ("rate", k)
    if dot(value[2], others[value[1]]) <= 1:
        return ("within",)
    for k in range(value[1]):
        if not in_time(rates, others[k]):
            return ("first", k)
    return None


def mixture(rng, rates):
    """A row that the rates reach in a time of 1."""
    shares = [rng.randint(0, 9) for _ in rates] + [rng.randint(0, 3)]
    whole = max(1, sum(shares))
    amounts = [pair(Fraction(share, whole)) for share in shares[:-1]]
    return tuple(pair(sum_at(rates, amounts, i)) for i in range(len(rates[0])))


class NeverSlower(unittest.TestCase):
    def right(self, rates, others):
        value = never_slower(rates, others)
        self.assertIsNone(own_judge(rates, others, value), (rates, others, value))
        self.assertIsNone(judge_sooner(rates, others, value))
        self.assertEqual(never_slower(tuple(rates), tuple(others)), value)
        if value[0] == "quick":
            self.assertIs(type(value[1]), list)
            self.assertIsNone(judge_sooner(tuple(rates), tuple(others), ("quick", tuple(value[1]))))
        return value

    def test_examples(self):
        self.assertEqual(never_slower([EAST, NORTH], [((1, 1), (1, 1)), EAST]),
                         ("quick", [((1, 2), (1, 2)), ((1, 1), (0, 1))]))
        self.assertEqual(
            [never_slower([EAST], [EAST, ((2, 1), (0, 1))])[:2],
             judge_sooner([EAST], [((2, 1), (0, 1))], ("slower", 0, ((1, 1), (7, 1))))],
            [("slower", 1), None])
        self.assertEqual(judge_sooner([EAST, WEST], [EAST], ("quick", [((0, 1), (-1, 1))])), ("form",))
        self.assertEqual(
            [alike_times([EAST, NORTH], [NORTH, ((1, 1), (1, 1)), EAST]), alike_times([EAST], [WEST])], [True, False])

    def test_both_answers(self):
        rng = rng_for(1)
        numbers = []
        for _ in range(160):
            levels = rng.randint(1, 4)
            rates = random_rates(rng, rng.randint(1, 8), levels, rng.choice([1, 9, 999999]), 0.3)
            others = [mixture(rng, rates) for _ in range(rng.randint(1, 8))]
            if rng.random() < 0.6:
                k = rng.randrange(len(others))
                factor = rng.choice([2, Fraction(1000001, 1000000), -1, 0])
                others[k] = tuple(pair(real(x) * factor) for x in rng.choice(rates))
            if rng.random() < 0.3:
                others[rng.randrange(len(others))] = random_row(rng, levels, 9)
            value = self.right(rates, others)
            firsts = [k for k, v in enumerate(others) if not in_time(rates, v)]
            self.assertEqual(value[1] if value[0] == "slower" else None, firsts[0] if firsts else None)
            numbers.append(value[1] if value[0] == "slower" else None)
        for number in (None, 0, 1, 2, 3):
            self.assertGreater(numbers.count(number), 4)

    def test_alike_ones_multiples_and_noughts(self):
        zero = row(0, 0)
        self.assertEqual(self.right([EAST], [EAST, EAST, zero]), ("quick", [row(1), row(1), row(0)]))
        self.assertEqual(self.right([zero], [zero])[0], "quick")
        self.assertEqual(self.right([zero], [EAST])[:2], ("slower", 0))
        self.assertEqual(self.right([EAST], [zero, WEST, EAST])[:2], ("slower", 1))
        self.assertEqual(self.right([EAST], [row("1/2", 0), row(1, 0)]), ("quick", [row("1/2"), row(1)]))
        self.assertEqual(self.right([EAST], [row("1/2", 0), row("1000001/1000000", 0), row(3, 0)])[:2], ("slower", 1))
        self.assertEqual(self.right([EAST, WEST], [row(0, "1/999999")])[:2], ("slower", 0))

    def test_the_words_of_as_quick(self):
        rng = rng_for(2)
        for _ in range(40):
            rates, others = random_rates(rng, 4, 2, 3), random_rates(rng, 3, 2, 2)
            word = never_slower(rates, others)[0]
            for v in [random_row(rng, 2, 9) for _ in range(10)] + others:
                sooner, later = time_for(rates, v), time_for(others, v)
                if word == "quick" and later is not None:
                    self.assertLessEqual(real(sooner), real(later))
            if word == "slower":
                slow = [v for v in others if time_for(rates, v) is None or real(time_for(rates, v)) > 1]
                self.assertNotEqual(slow, [])

    def test_alike_times(self):
        rng = rng_for(3)
        told = []
        for _ in range(120):
            rates = random_rates(rng, rng.randint(1, 4), 2, 3)
            others = rates + [mixture(rng, rates) for _ in range(3)]
            if rng.random() < 0.5:
                others.append(random_row(rng, 2, 3))
            rng.shuffle(others)
            value = alike_times(rates, others)
            self.assertIs(value, never_slower(rates, others)[0] == "quick")
            self.assertIs(alike_times(tuple(others), tuple(rates)), value)
            told.append(value)
        self.assertGreater(min(told.count(True), told.count(False)), 20)
        self.assertEqual([alike_times([EAST, NORTH], [EAST]), alike_times([EAST], [EAST, NORTH])], [False, False])
        self.assertIs(alike_times([EAST, row(0, 0)], [EAST]), True)
        self.assertIs(alike_times([EAST], [row(2, 0)]), False)

    def test_lists_are_new(self):
        rates, others = [EAST, NORTH], [EAST]
        never_slower(rates, others)[1].append(None)
        self.assertEqual(never_slower(rates, others), ("quick", [row(1, 0)]))
        self.assertEqual((rates, others), ([EAST, NORTH], [EAST]))


class JudgeSooner(unittest.TestCase):
    def test_each_fault(self):
        rates, others = [EAST, NORTH], [row(1, 1), row(3, 0), EAST, row(0, 1)]
        fine, half = row("1/2", "1/2"), row("1/2", 0)
        cases = [
            (("slower", 1, row(1, 0)), None), (("slower", 1, row(1, -9)), None), (("slower", 3, row(-1, 2)), ("rate", 1)),
            (("slower", 1, row(2, 0)), ("rate", 0)), (("slower", 1, row(1, 1)), ("rate", 1)),
            (("slower", 1, row("1/3", 0)), ("within",)), (("slower", 0, row(1, 0)), ("within",)),
            (("slower", 2, row(1, 0)), ("within",)), (("slower", 3, row(-3, 2)), ("first", 1)),
            (("slower", 3, row(1, 0)), ("within",)), (("slower", 4, row(1, 0)), ("form",)),
            (("slower", -1, row(1, 0)), ("form",)), (("slower", True, row(1, 0)), ("form",)),
            (("slower", 1, row(1)), ("form",)), (("slower", 1, list(row(1, 0))), ("form",)), (("slower", 1), ("form",)),
            (["slower", 1, row(1, 0)], ("form",)), (("slow", 1, row(1, 0)), ("form",)),
            (("quick", [fine, row(3, 0), row(1, 0), row(0, 1)]), ("time", 1)),
            (("quick", (fine, row(3, 0), row(1, 0), row(0, 1))), ("time", 1)),
            (("quick", [half, row(3, 0), row(1, 0), row(0, 1)]), ("sum", 0)),
            (("quick", [fine, half, row(9, 0), row(0, 1)]), ("sum", 1)), (("quick", [fine, half, half]), ("form",)),
            (("quick", [fine, half, half, half, half]), ("form",)), (("quick", [fine, half, half, None]), ("form",)),
            (("quick", [fine, half, half, list(half)]), ("form",)), (("quick", [fine, half, half, row(1)]), ("form",)),
            (("quick", [fine, half, half, row(0, -1)]), ("form",)), (("quick", []), ("form",)), (("quick",), ("form",)),
            (("quick", {0: fine, 1: half, 2: half, 3: half}), ("form",)), (["quick", [fine] * 4], ("form",)),
            (("quick", "abcd"), ("form",)), (("quick", [fine] * 4, ()), ("form",)), (None, ("form",)),
        ]
        for value, fault in cases:
            self.assertEqual(judge_sooner(rates, others, value), fault, value)
            self.assertEqual(own_judge(rates, others, value), fault, value)
        told = ("quick", [fine, row(1, 0)])
        self.assertIsNone(judge_sooner(rates, [row(1, 1), EAST], told))
        self.assertIsNone(judge_sooner(tuple(rates), (row(1, 1), EAST), ("quick", tuple(told[1]))))

    def test_any_value(self):
        rng = rng_for(4)
        told = []
        for _ in range(90):
            levels = rng.randint(1, 2)
            rates = random_rates(rng, rng.randint(1, 3), levels, 2, 0.3)
            others = [mixture(rng, rates) for _ in range(rng.randint(1, 3))]
            if rng.random() < 0.6:
                others += [random_row(rng, levels, 3), random_row(rng, levels, 3)]
            rng.shuffle(others)
            value = never_slower(rates, others)
            changes = [changed(value, rng) for _ in range(40)] + [shifted(value, rng) for _ in range(20)]
            for k in range(len(others)):
                steep = random_row(rng, levels, 3)
                alone = never_slower(rates, others[k:k + 1])
                changes += [("slower", k, steep), ("slower", k, value[-1]), alone[:1] + (k,) + alone[2:]]
                scale = max([dot(steep, rate) for rate in rates])
                if scale > 0:
                    changes.append(("slower", k, tuple(pair(real(x) / scale) for x in steep)))
            changes.append(("quick", [tuple(random_pair(rng, 2, False) for _ in rates) for _ in others]))
            for other in changes + ANY_VALUES:
                fault = own_judge(rates, others, other)
                self.assertEqual(judge_sooner(rates, others, other), fault, other)
                told.append("right" if fault is None else fault[0])
        for fault in ("right", "form", "sum", "time", "rate", "within", "first"):
            self.assertGreater(told.count(fault), 8, fault)


if __name__ == "__main__":
    unittest.main()
