import unittest
from fractions import Fraction

from ledlevels.costs import cheapest, cost_of, judge_cost, least_cost, mean_cost
from ledlevels.errors import Endless, NotInside, NoWay
from tests.helping import (
    ANY_VALUES, all_basic, are_pairs, changed, dot, is_pair, pair, random_pair, random_row, real, rng_for, row, shifted,
    sum_at)
from tests.walking import (
    endless_plan, own_first_out, own_is_plan, random_place, random_plan, random_rates, random_room, single_steps)

UP, DOWN, FALL = ((1, 1),), ((-1, 1),), ((-2, 1),)
ROOM = (((0, 1), (4, 1)),)


def own_mixings(rates):
    """All mixings of free rates."""
    return all_basic([rate + ((1, 1),) for rate in rates], row(*[0] * len(rates[0]) + [1]))


def own_least(rates, costs):
    """The least mean cost, by a search over free rates; None if there is no mixing."""
    return min([sum(share * real(cost) for share, cost in zip(shares, costs)) for shares in own_mixings(rates)],
               default=None)


def is_own_mixing(rates, shares):
    """Whether shares are a mixing."""
    if any(real(share) < 0 for share in shares) or sum(real(share) for share in shares) != 1:
        return False
    return all(sum_at(rates, shares, i) == 0 for i in range(len(rates[0])))


def own_slope_fault(rates, slope):
    for k, rate in enumerate(rates):
        if dot(slope, rate) <= 0:
            return ("slope", k)
    return None


def own_judge(rates, costs, value):
    """What judge_cost has to tell, by the words of the document."""
    levels = len(rates[0])
    if type(value) is not tuple or not value or type(value[0]) is not str:
        return ("form",)
    if value[0] == "climbs" and len(value) == 2 and are_pairs(value[1], levels):
        return own_slope_fault(rates, value[1])
    if value[0] != "least" or len(value) != 4 or not is_pair(value[1]):
        return ("form",)
    if not are_pairs(value[2], len(rates)) or not are_pairs(value[3], levels):
        return ("form",)
    _, cost, shares, prices = value
    if not is_own_mixing(rates, shares):
        return ("shares",)
    mean = sum(real(share) * real(x) for share, x in zip(shares, costs))
    if mean != real(cost):
        return ("cost", pair(mean))
    for k, rate in enumerate(rates):
        if real(costs[k]) < dot(prices, rate) + real(cost):
            return ("prices", k)
    return None


def mixing_rates(rng, levels, many, most):
    """Rates that mix: the last one leads back from some of the others."""
    rates = random_rates(rng, many - 1, levels, most, 0.2)
    parts = [pair(rng.randint(0, 5)) for _ in rates]
    share = rng.randint(1, 3)
    last = [-sum_at(rates, parts, i) / share for i in range(levels)]
    return rates + [tuple(pair(x) for x in last)]


class LeastCost(unittest.TestCase):
    def right(self, rates, costs):
        value = least_cost(rates, costs)
        self.assertIsNone(own_judge(rates, costs, value), (rates, costs, value))
        self.assertIsNone(judge_cost(rates, costs, value))
        self.assertEqual(least_cost(tuple(rates), tuple(costs)), value)
        self.assertIsNone(judge_cost(tuple(rates), tuple(costs), value))
        return value

    def test_examples(self):
        self.assertEqual(least_cost([UP, DOWN, FALL], [(3, 1), (1, 1), (4, 1)]),
                         ("least", (2, 1), ((1, 2), (1, 2), (0, 1)), ((1, 1),)))
        self.assertEqual(
            [least_cost([UP, ((2, 1),)], [(0, 1), (0, 1)])[0],
             judge_cost([UP, DOWN], [(3, 1), (1, 1)], ("least", (2, 1), ((1, 2), (1, 2)), ((0, 1),)))],
            ["climbs", ("prices", 1)])
        self.assertEqual(
            [judge_cost([UP, DOWN], [(3, 1), (1, 1)], ("climbs", ((1, 1),))),
             judge_cost([UP, DOWN], [(3, 1), (1, 1)], ("least", (1, 1), ((1, 2), (1, 2)), ((1, 1),)))],
            [("slope", 1), ("cost", (2, 1))])

    def test_both_answers(self):
        rng = rng_for(1)
        words = []
        for _ in range(250):
            levels, many, most = rng.randint(1, 4), rng.randint(1, 8), rng.choice([1, 9, 999999])
            if rng.random() < 0.5:
                rates = mixing_rates(rng, levels, max(many, 2), rng.choice([1, 9, 999]))
            else:
                rates = random_rates(rng, many, levels, most, 0.3)
            costs = [random_pair(rng, most) for _ in rates]
            value = self.right(rates, costs)
            words.append(value[0])
            least = own_least(rates, costs)
            self.assertEqual(None if value[0] == "climbs" else real(value[1]), least)
        self.assertGreater(min(words.count("least"), words.count("climbs")), 40)

    def test_costs_below_nought_alike_and_nought(self):
        self.assertEqual(self.right([UP, DOWN, row(0)], [(-5, 1), (-5, 1), (-4, 1)])[1], (-5, 1))
        self.assertEqual(self.right([UP, DOWN], [(7, 2), (7, 2)])[1], (7, 2))
        self.assertEqual(self.right([UP, DOWN], [(0, 1), (0, 1)])[1], (0, 1))
        self.assertEqual(self.right([UP, DOWN, FALL], [(3, 1), (-1, 1), (-100, 1)])[1], (-94, 3))

    def test_rates_nought_and_alike(self):
        self.assertEqual(self.right([row(0, 0)], [(9, 1)])[:3], ("least", (9, 1), row(1)))
        self.assertEqual(self.right([row(0), row(0)], [(9, 1), (2, 1)])[:3], ("least", (2, 1), row(0, 1)))
        self.assertEqual(self.right([UP, UP, DOWN, DOWN], [(4, 1), (2, 1), (1, 1), (6, 1)])[:3],
                         ("least", (3, 2), row(0, "1/2", "1/2", 0)))
        self.assertEqual(self.right([UP, UP], [(1, 1), (-1, 1)])[0], "climbs")

    def test_the_greatest_lists(self):
        rng = rng_for(2)
        for _ in range(10):
            rates = mixing_rates(rng, 4, 8, 999999)
            self.right(rates, [random_pair(rng, 999999) for _ in rates])


class JudgeCost(unittest.TestCase):
    def test_each_fault(self):
        rates, costs = [UP, DOWN, FALL], [(3, 1), (1, 1), (4, 1)]
        half = row("1/2", "1/2", 0)
        cases = [
            (("least", (2, 1), half, UP), None), (("least", (2, 1), half, row("3/2")), ("prices", 0)),
            (("least", (2, 1), half, row("1/2")), ("prices", 1)), (("least", (2, 1), half, row(-1)), ("prices", 1)),
            (("least", (2, 1), half, row(-2)), ("prices", 1)), (("least", (7, 3), half, UP), ("cost", (2, 1))),
            (("least", (2, 1), row("2/3", 0, "1/3"), UP), ("cost", (10, 3))),
            (("least", (10, 3), row("2/3", 0, "1/3"), UP), ("prices", 0)),
            (("least", (2, 1), row("1/2", "1/2", "1/2"), UP), ("shares",)),
            (("least", (9, 1), row("1/3", "1/3", "1/3"), row(9)), ("shares",)),
            (("least", (2, 1), row("3/2", "-1/2", 0), UP), ("shares",)),
            (("least", (2, 1), row(1, 1, 0), UP), ("shares",)),
            (("least", (2, 1), row("1/4", "5/4", "-1/2"), UP), ("shares",)),
            (("least", (2, 1), row(0, 0, 0), UP), ("shares",)), (("climbs", UP), ("slope", 1)),
            (("climbs", DOWN), ("slope", 0)), (("climbs", row(0)), ("slope", 0)), (("climbs", row(1, 1)), ("form",)),
            (("climbs", [(1, 1)]), ("form",)), (("climbs",), ("form",)), (("climbs", UP, UP), ("form",)),
            (["least", (2, 1), half, UP], ("form",)), (("least", (2, 1), half), ("form",)),
            (("least", (2, 1), half, UP, 0), ("form",)), (("least", (4, 2), half, UP), ("form",)),
            (("least", 2, half, UP), ("form",)), (("least", (2, True), half, UP), ("form",)),
            (("least", (2, 1), list(half), UP), ("form",)), (("least", (2, 1), half[:2], UP), ("form",)),
            (("least", (2, 1), half + half, UP), ("form",)), (("least", (2, 1), half, row(1, 0)), ("form",)),
            (("least", (2, 1), half, ((True, 1),)), ("form",)), (("most", (2, 1), half, UP), ("form",)),
            (None, ("form",)),
        ]
        for value, fault in cases:
            self.assertEqual(judge_cost(rates, costs, value), fault, value)
            self.assertEqual(own_judge(rates, costs, value), fault, value)
        self.assertIsNone(judge_cost([UP, row(2)], [(0, 1), (0, 1)], ("climbs", row("1/9"))))

    def test_any_value(self):
        rng = rng_for(3)
        told = []
        for _ in range(90):
            levels = rng.randint(1, 2)
            rates = mixing_rates(rng, levels, rng.randint(2, 4),
                                 2) if rng.random() < 0.7 else random_rates(rng, 3, levels, 2)
            costs = [random_pair(rng, 3) for _ in rates]
            value = least_cost(rates, costs)
            others = [changed(value, rng) for _ in range(25)] + [shifted(value, rng) for _ in range(25)]
            for shares in own_mixings(rates)[:4]:
                mean = sum(share * real(cost) for share, cost in zip(shares, costs))
                others.append(("least", pair(mean), tuple(pair(x) for x in shares), random_row(rng, levels, 3)))
                others.append(("least", pair(mean), tuple(pair(x) for x in shares), value[-1]))
            others.append(("climbs", random_row(rng, levels, 3)))
            for other in others + ANY_VALUES:
                fault = own_judge(rates, costs, other)
                self.assertEqual(judge_cost(rates, costs, other), fault, other)
                told.append("right" if fault is None else fault[0])
        for fault in ("right", "form", "shares", "cost", "prices", "slope"):
            self.assertGreater(told.count(fault), 20, fault)


class CostOf(unittest.TestCase):
    def test_examples(self):
        lap = ((((0, (1, 2)), (1, (1, 2))), None),)
        self.assertEqual(
            [mean_cost([(3, 1), (1, 1)], lap), cost_of([(3, 1), (1, 1)], ((((0, (1, 2)),), 4),)),
             mean_cost([(3, 1), (1, 1)], ())],
            [(2, 1), (6, 1), None])

    def test_against_sums_lap_by_lap(self):
        rng = rng_for(4)
        for _ in range(250):
            turns, most = rng.randint(1, 4), rng.choice([3, 999999])
            costs = [random_pair(rng, most) for _ in range(turns)]
            plan = random_plan(rng, turns, most, 4, 4, 5)
            wanted = sum((real(costs[turn]) * real(time) for turn, time in single_steps(plan)), Fraction(0))
            length = sum((real(time) for _, time in single_steps(plan)), Fraction(0))
            self.assertEqual(cost_of(costs, plan), pair(wanted))
            self.assertEqual(cost_of(tuple(costs), plan), pair(wanted))
            self.assertEqual(mean_cost(costs, plan), pair(wanted / length) if length else None)

    def test_plans_for_ever(self):
        rng = rng_for(5)
        for _ in range(150):
            costs = [random_pair(rng, 99) for _ in range(3)]
            plan = endless_plan(rng, 3, 9, 2)
            last = plan[-1][0]
            wanted = sum(real(costs[turn]) * real(time) for turn, time in last) / sum(real(time) for _, time in last)
            self.assertEqual(mean_cost(costs, plan), pair(wanted))
            self.assertEqual(mean_cost(tuple(costs), plan), pair(wanted))
            with self.assertRaises(Endless):
                cost_of(costs, plan)

    def test_great_n(self):
        costs = [(3, 1), (-1, 2)]
        plan = ((((0, (1, 7)), (1, (2, 1)), (0, (0, 1))), 10 ** 9), (((1, (5, 1)),), 10 ** 40))
        self.assertEqual(cost_of(costs, plan), pair(Fraction(-4, 7) * 10 ** 9 - Fraction(5, 2) * 10 ** 40))
        self.assertEqual(mean_cost(costs, plan[:1]), pair(Fraction(-4, 7) / Fraction(15, 7)))
        forty = tuple((tuple((k % 2, pair(Fraction(k, 7))) for k in range(20)), 10 ** 9 - n) for n in range(40))
        wanted = sum(n * sum(real(costs[k]) * real(time) for k, time in steps) for steps, n in forty)
        self.assertEqual(cost_of(costs, forty), pair(wanted))

    def test_no_time(self):
        costs = [(3, 1), (1, 1)]
        for plan in ((), ((((0, (0, 1)),), 5),), ((((0, (0, 1)), (1, (0, 1))), 10 ** 9), (((1, (0, 1)),), 1))):
            self.assertEqual(cost_of(costs, plan), (0, 1))
            self.assertIsNone(mean_cost(costs, plan))
        self.assertEqual(mean_cost(costs, ((((0, (0, 1)), (1, (1, 9))), 2),)), (1, 1))
        self.assertEqual(mean_cost(costs, ((((0, (9, 1)),), 2), (((0, (0, 1)), (1, (1, 9))), None))), (1, 1))
        self.assertEqual(mean_cost([(0, 1)], ((((0, (1, 9)),), 2),)), (0, 1))


class Cheapest(unittest.TestCase):
    def right(self, room, rates, costs, place):
        plan = cheapest(room, rates, costs, place)
        self.assertTrue(own_is_plan(plan, len(rates)), plan)
        self.assertIsNone(plan[-1][1])
        self.assertIsNone(own_first_out(room, rates, place, plan))
        self.assertEqual(mean_cost(costs, plan), pair(own_least(rates, costs)))
        steps = plan[-1][0]
        mean = sum(real(costs[k]) * real(time) for k, time in steps) / sum(real(time) for _, time in steps)
        self.assertEqual(mean, own_least(rates, costs))
        self.assertEqual(cheapest(room, tuple(rates), tuple(costs), place), plan)
        return plan

    def test_examples(self):
        costs = [(3, 1), (1, 1)]
        self.assertEqual(mean_cost(costs, cheapest(ROOM, [UP, DOWN], costs, ((1, 1),))), (2, 1))
        with self.assertRaises(NotInside) as caught:
            cheapest(ROOM, [UP, DOWN], costs, ((0, 1),))
        self.assertEqual(caught.exception.number, 0)

    def test_plans(self):
        rng = rng_for(6)
        for _ in range(120):
            levels, most = rng.randint(1, 4), rng.choice([3, 999])
            room = random_room(rng, levels, most)
            rates = mixing_rates(rng, levels, rng.randint(2, 8), most)
            costs = [random_pair(rng, most) for _ in rates]
            self.right(room, rates, costs, random_place(rng, room, 0))

    def test_near_a_wall_and_a_rate_of_nought(self):
        room = (((0, 1), (1, 1)), ((0, 1), (1, 1)))
        rates = [row(999999, 0), row("-1/999999", 0), row(0, 999998), row(0, -1)]
        costs = [(1, 1), (-5, 1), (-6, 1), (-7, 1)]
        self.right(room, rates, costs, row("1/999999", "999998/999999"))
        self.right(room, rates + [row(0, 0)], costs + [(-999999, 1)], row("1/999999", "999998/999999"))

    def test_errors_in_their_order(self):
        for place in (row(0), row(4), row(-1), row(5)):
            with self.assertRaises(NotInside) as caught:
                cheapest(ROOM, [UP], [(1, 1)], place)
            self.assertEqual(caught.exception.number, 0)
        rng = rng_for(7)
        for _ in range(40):
            levels = rng.randint(1, 3)
            room, rates = random_room(rng, levels, 9), random_rates(rng, rng.randint(1, 2), levels, 9, 0)
            if own_mixings(rates):
                continue
            with self.assertRaises(NoWay) as caught:
                cheapest(room, rates, [(1, 1)] * len(rates), random_place(rng, room, 0))
            self.assertTrue(are_pairs(caught.exception.slope, levels))
            self.assertIsNone(own_slope_fault(rates, caught.exception.slope))

    def test_what_is_passed_stays(self):
        rates, costs = [UP, DOWN], [(3, 1), (1, 1)]
        cheapest(ROOM, rates, costs, row(1))
        least_cost(rates, costs)
        self.assertEqual((rates, costs), ([UP, DOWN], [(3, 1), (1, 1)]))


if __name__ == "__main__":
    unittest.main()
