import unittest

from ledlevels.mixing import mixed
from ledlevels.peaks import judge_peak, peak
from tests.helping import (
    ANY_VALUES, are_pairs, changed, is_pair, pair, random_pair, random_row, real, rng_for, row, shifted)
from tests.test_costs import is_own_mixing, mixing_rates, own_mixings, own_slope_fault
from tests.walking import random_rates

UP, DOWN, FALL = ((1, 1),), ((-1, 1),), ((-2, 1),)


def own_cap(rates, powers):
    """The least power up to which turns mix, by a search; None if they never do."""
    for cap in sorted({real(power) for power in powers}):
        lot = [rate for rate, power in zip(rates, powers) if real(power) <= cap]
        if own_mixings(lot):
            return cap
    return None


def own_judge(rates, powers, value):
    """What judge_peak has to tell, by the words of the document."""
    levels = len(rates[0])
    if type(value) is not tuple or not value or type(value[0]) is not str:
        return ("form",)
    if value[0] == "climbs" and len(value) == 2 and are_pairs(value[1], levels):
        return own_slope_fault(rates, value[1])
    if value[0] != "peak" or len(value) != 4 or not is_pair(value[1]):
        return ("form",)
    if not are_pairs(value[2], len(rates)) or not are_pairs(value[3], levels):
        return ("form",)
    _, cap, shares, slope = value
    if not is_own_mixing(rates, shares):
        return ("shares",)
    for k, share in enumerate(shares):
        if real(share) > 0 and real(powers[k]) > real(cap):
            return ("power", k)
    for k, rate in enumerate(rates):
        if real(powers[k]) < real(cap) and own_slope_fault([rate], slope):
            return ("slope", k)
    return None


class Peak(unittest.TestCase):
    def right(self, rates, powers):
        value = peak(rates, powers)
        self.assertIsNone(own_judge(rates, powers, value), (rates, powers, value))
        self.assertIsNone(judge_peak(rates, powers, value))
        self.assertEqual(peak(tuple(rates), tuple(powers)), value)
        self.assertIsNone(judge_peak(tuple(rates), tuple(powers), value))
        cap = own_cap(rates, powers)
        self.assertEqual(value[1] if value[0] == "peak" else None, None if cap is None else pair(cap))
        return value

    def test_examples(self):
        self.assertEqual(
            [peak([UP, DOWN, FALL], [(2, 1), (5, 1), (3, 1)])[:3], peak([UP], [(1, 1)])[0]],
            [("peak", (3, 1), ((2, 3), (0, 1), (1, 3))), "climbs"])
        self.assertEqual(
            [judge_peak([UP, DOWN], [(2, 1), (5, 1)], ("peak", (4, 1), ((1, 2), (1, 2)), UP)),
             judge_peak([UP, DOWN], [(2, 1), (5, 1)], ("peak", (6, 1), ((1, 2), (1, 2)), UP))],
            [("power", 1), ("slope", 1)])

    def test_both_answers(self):
        rng = rng_for(1)
        words = []
        for _ in range(200):
            levels, many, most = rng.randint(1, 4), rng.randint(2, 8), rng.choice([1, 9, 999])
            rates = mixing_rates(rng, levels, many,
                                 most) if rng.random() < 0.5 else random_rates(rng, many, levels, most, 0)
            rng.shuffle(rates)
            powers = [random_pair(rng, rng.choice([1, 3, 999999])) for _ in rates]
            value = self.right(rates, powers)
            words.append(value[0])
            if value[0] == "peak":
                for share, power in zip(value[2], powers):
                    if real(power) > real(value[1]):
                        self.assertEqual(share, (0, 1))
        self.assertGreater(min(words.count("peak"), words.count("climbs")), 30)

    def test_powers_alike_and_below_nought(self):
        self.assertEqual(self.right([UP, DOWN], [(2, 1), (2, 1)])[:2], ("peak", (2, 1)))
        self.assertTrue(are_pairs(self.right([UP, DOWN], [(2, 1), (2, 1)])[3], 1))
        self.assertEqual(self.right([UP, DOWN, FALL], [(-2, 1), (-1, 2), (-1, 2)])[1], (-1, 2))
        self.assertEqual(self.right([UP, UP], [(2, 1), (2, 1)])[0], "climbs")
        self.assertEqual(self.right([row(0, 0), row(1, 1)], [(9, 1), (-3, 1)])[:3], ("peak", (9, 1), row(1, 0)))

    def test_the_first_turn_alone_mixes(self):
        value = self.right([row(0, 0), row(1, 0)], [(0, 1), (5, 1)])
        self.assertEqual(value[:3], ("peak", (0, 1), row(1, 0)))
        self.assertTrue(are_pairs(value[3], 2))
        for slope in (row(0, 0), row(-5, 7), row(1, 1)):
            self.assertIsNone(judge_peak([row(0, 0), row(1, 0)], [(0, 1), (5, 1)], value[:3] + (slope,)))

    def test_what_is_passed_stays(self):
        rates, powers = [UP, DOWN, FALL], [(2, 1), (5, 1), (3, 1)]
        peak(rates, powers)
        self.assertEqual((rates, powers), ([UP, DOWN, FALL], [(2, 1), (5, 1), (3, 1)]))


class JudgePeak(unittest.TestCase):
    def test_each_fault(self):
        rates, powers = [UP, DOWN, FALL], [(2, 1), (5, 1), (3, 1)]
        shares, half = row("2/3", 0, "1/3"), row("1/2", "1/2", 0)
        cases = [
            (("peak", (3, 1), shares, UP), None), (("peak", (3, 1), shares, row("1/9")), None),
            (("peak", (3, 1), shares, DOWN), ("slope", 0)), (("peak", (3, 1), shares, row(0)), ("slope", 0)),
            (("peak", (3, 1), half, UP), ("power", 1)), (("peak", (5, 2), shares, UP), ("power", 2)),
            (("peak", (1, 1), shares, DOWN), ("power", 0)), (("peak", (1, 1), half, UP), ("power", 0)),
            (("peak", (4, 1), shares, UP), ("slope", 2)), (("peak", (5, 1), half, UP), ("slope", 2)),
            (("peak", (6, 1), half, UP), ("slope", 1)), (("peak", (6, 1), half, DOWN), ("slope", 0)),
            (("peak", (3, 1), row("1/3", 0, "2/3"), UP), ("shares",)),
            (("peak", (3, 1), row(2, 0, 1), UP), ("shares",)),
            (("peak", (3, 1), row(1, -1, 1), UP), ("shares",)), (("peak", (0, 1), row(0, 0, 0), UP), ("shares",)),
            (("climbs", UP), ("slope", 1)), (("climbs", DOWN), ("slope", 0)), (("climbs", row(1, 1)), ("form",)),
            (("climbs", list(UP)), ("form",)), (("climbs",), ("form",)), (["climbs", UP], ("form",)),
            (["peak", (3, 1), shares, UP], ("form",)), (("peak", (6, 2), shares, UP), ("form",)),
            (("peak", 3, shares, UP), ("form",)), (("peak", (3, True), shares, UP), ("form",)),
            (("peak", (3, 1), list(shares), UP), ("form",)), (("peak", (3, 1), shares[:2], UP), ("form",)),
            (("peak", (3, 1), shares, row(1, 0)), ("form",)), (("peak", (3, 1), shares), ("form",)),
            (("peak", (3, 1), shares, UP, 0), ("form",)), (("least", (3, 1), shares, UP), ("form",)), (None, ("form",)),
        ]
        for value, fault in cases:
            self.assertEqual(judge_peak(rates, powers, value), fault, value)
            self.assertEqual(own_judge(rates, powers, value), fault, value)
        self.assertIsNone(judge_peak([UP, row(2)], [(1, 1), (0, 1)], ("climbs", row("1/9"))))
        self.assertIsNone(judge_peak([UP], [(1, 1)], ("climbs", UP)))
        self.assertIsNone(judge_peak([row(0, 0)], [(1, 1)], ("peak", (1, 1), row(1), row(7, 7))))
        # The number of a turn is told of all turns, also if others of more power stand ahead of it.
        self.assertEqual(judge_peak([row(0), UP, DOWN], [(9, 1), (2, 1), (5, 1)],
                                    ("peak", (5, 1), row(0, "1/2", "1/2"), DOWN)),
                         ("slope", 1))
        self.assertEqual(judge_peak([row(0), UP, DOWN], [(9, 1), (2, 1), (5, 1)],
                                    ("peak", (5, 1), row("1/2", "1/4", "1/4"), UP)),
                         ("power", 0))

    def test_any_value(self):
        rng = rng_for(2)
        told = []
        for _ in range(90):
            levels = rng.randint(1, 2)
            rates = mixing_rates(rng, levels, rng.randint(2, 4),
                                 2) if rng.random() < 0.7 else random_rates(rng, 3, levels, 2)
            rng.shuffle(rates)
            powers = [random_pair(rng, 3) for _ in rates]
            value = peak(rates, powers)
            others = [changed(value, rng) for _ in range(25)] + [shifted(value, rng) for _ in range(15)]
            for shares in own_mixings(rates)[:4]:
                for cap in powers[:2]:
                    others.append(("peak", cap, tuple(pair(x) for x in shares), random_row(rng, levels, 3)))
                    others.append(("peak", cap, tuple(pair(x) for x in shares), value[-1]))
            others.append(("climbs", random_row(rng, levels, 3)))
            for other in others + ANY_VALUES:
                fault = own_judge(rates, powers, other)
                self.assertEqual(judge_peak(rates, powers, other), fault, other)
                told.append("right" if fault is None else fault[0])
        for fault in ("right", "form", "shares", "power", "slope"):
            self.assertGreater(told.count(fault), 20, fault)

    def test_the_greatest_lists(self):
        rng = rng_for(3)
        for _ in range(6):
            rates = mixing_rates(rng, 4, 8, 999999)
            powers = [random_pair(rng, 999999) for _ in rates]
            value = peak(rates, powers)
            self.assertIsNone(own_judge(rates, powers, value))
            if value[0] == "peak":
                lower = [rate for rate, power in zip(rates, powers) if real(power) < real(value[1])]
                self.assertTrue(not lower or mixed(lower)[0] == "climbs")


if __name__ == "__main__":
    unittest.main()
