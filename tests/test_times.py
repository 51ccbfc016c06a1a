import unittest
from fractions import Fraction

from ledlevels.errors import NotInside, NoWay
from ledlevels.plans import end_of, time_of
from ledlevels.times import judge_time, least_time, quickest, time_for
from tests.helping import (
    ANY_VALUES, all_basic, are_pairs, changed, dot, is_pair, pair, random_row, real, rng_for, row, shifted, sum_at)
from tests.walking import between, own_far_end, own_first_out, own_is_plan, own_time, random_place, random_rates, random_room

EAST, WEST, NORTH = ((1, 1), (0, 1)), ((-1, 1), (0, 1)), ((1, 1), (2, 1))
ROOM = (((0, 1), (4, 1)), ((0, 1), (4, 1)))


def own_judge(rates, v, value):
    """What judge_time has to tell, by the words of the document."""
    if type(value) is not tuple or not value or type(value[0]) is not str:
        return ("form",)
    if value[0] == "barred":
        if len(value) != 2 or not are_pairs(value[1], len(v)):
            return ("form",)
        for k, rate in enumerate(rates):
            if dot(value[1], rate) < 0:
                return ("rate", k)
        return None if dot(value[1], v) < 0 else ("way",)
    if value[0] != "least" or len(value) != 3 or not are_pairs(value[1], len(rates)) or not are_pairs(value[2], len(v)):
        return ("form",)
    if any(real(time) < 0 for time in value[1]):
        return ("form",)
    if any(sum_at(rates, value[1], i) != real(v[i]) for i in range(len(v))):
        return ("sum",)
    for k, rate in enumerate(rates):
        if dot(value[2], rate) > 1:
            return ("rate", k)
    spent = sum(real(time) for time in value[1])
    return None if dot(value[2], v) == spent else ("time", pair(dot(value[2], v)))


def own_least(rates, v):
    """The least sum of times that reach v, by a search over all lots of free rates; None if none do."""
    return min([sum(amounts) for amounts in all_basic(rates, v)], default=None)


class LeastTime(unittest.TestCase):
    def right(self, rates, v):
        value = least_time(rates, v)
        self.assertIsNone(own_judge(rates, v, value), (rates, v, value))
        self.assertIsNone(judge_time(rates, v, value))
        self.assertEqual(least_time(tuple(rates), v), value)
        told = time_for(rates, v)
        if value[0] == "barred":
            self.assertIsNone(told)
        else:
            self.assertTrue(is_pair(told))
            self.assertEqual(real(told), sum(real(time) for time in value[1]))
        return value

    def test_examples(self):
        self.assertEqual(
            [time_for([EAST, WEST, NORTH], ((0, 1), (4, 1))), time_for([EAST, WEST, NORTH], ((0, 1), (-1, 1))),
             time_for([EAST], ((0, 1), (0, 1)))],
            [(4, 1), None, (0, 1)])
        self.assertEqual(least_time([EAST, NORTH], ((3, 1), (2, 1))), ("least", ((2, 1), (1, 1)), ((1, 1), (0, 1))))
        self.assertEqual(
            judge_time([EAST, NORTH], ((3, 1), (2, 1)), ("least", ((2, 1), (1, 1)), ((0, 1), (1, 2)))), ("time", (1, 1)))
        self.assertEqual(
            [judge_time([EAST], ((-1, 1), (0, 1)), ("barred", ((1, 1), (5, 1)))),
             judge_time([EAST], ((1, 1), (0, 1)), ("least", ((-1, 1),), EAST))],
            [None, ("form",)])

    def test_against_a_search(self):
        rng = rng_for(1)
        words = []
        for _ in range(300):
            levels, most = rng.randint(1, 4), rng.choice([1, 3, 999999])
            rates = random_rates(rng, rng.randint(1, 8), levels, most, 0.3)
            for v in (random_row(rng, levels, most, noughts=0.3), rng.choice(rates), row(*[0] * levels)):
                words.append(self.right(rates, v)[0])
                told, own = time_for(rates, v), own_least(rates, v)
                self.assertEqual(told, None if own is None else pair(own))
        self.assertGreater(min(words.count("least"), words.count("barred")), 100)

    def test_noughts_and_alike_rates(self):
        self.assertEqual(self.right([row(0, 0)], row(0, 0))[:2], ("least", row(0)))
        self.assertEqual(self.right([row(0, 0)], row(0, 1))[0], "barred")
        self.assertEqual(self.right([row(2), row(2), row(0)], row(3))[0], "least")
        self.assertEqual(time_for([row(2), row(2), row(0)], row(3)), (3, 2))
        self.assertEqual(time_for([row(1), row(-1)], row(0)), (0, 1))
        self.assertEqual(time_for([row(1), row(3)], row("-1/9")), None)

    def test_other_orders_multiples_and_more_rates(self):
        rng = rng_for(2)
        for _ in range(80):
            levels = rng.randint(1, 4)
            rates = random_rates(rng, rng.randint(2, 7), levels, 9, 0.2)
            v = random_row(rng, levels, 9, noughts=0.2)
            told = time_for(rates, v)
            turned = list(rates)
            rng.shuffle(turned)
            self.assertEqual(time_for(turned, v), told)
            factor = Fraction(rng.randint(1, 99), rng.randint(1, 99))
            longer = tuple(pair(real(x) * factor) for x in v)
            self.assertEqual(time_for(rates, longer), None if told is None else pair(real(told) * factor))
            faster = [tuple(pair(real(x) * factor) for x in rate) for rate in rates]
            self.assertEqual(time_for(faster, v), None if told is None else pair(real(told) / factor))
            more = time_for(rates + [random_row(rng, levels, 9)], v)
            if told is not None:
                self.assertLessEqual(real(more), real(told))
            self.assertIn(time_for(rates + [v], v), [pair(min(1, 1 if told is None else real(told)))])

    def test_twelve_figures(self):
        rng = rng_for(3)
        words = []
        for _ in range(20):
            rates = random_rates(rng, 8, 4, 999999, 0)
            v = random_row(rng, 4, 10 ** 12 - 1)
            words.append(self.right(rates, v)[0])
            own = own_least(rates, v)
            self.assertEqual(time_for(rates, v), None if own is None else pair(own))
        self.assertIn("least", words)


class JudgeTime(unittest.TestCase):
    def test_each_fault(self):
        rates, v = [EAST, NORTH, row(-1, 1)], row(3, 2)
        cases = [
            (("least", row(2, 1, 0), row(1, 0)), None), (("least", row(2, 1, 0), row("1/2", "1/4")), ("time", (2, 1))),
            (["least", row(2, 1, 0), row(1, 0)], ("form",)), (("least", row(2, 1), row(1, 0)), ("form",)),
            (("least", row(2, 1, 0), row(1)), ("form",)), (("least", row(2, 1, 0)), ("form",)),
            (("least", list(row(2, 1, 0)), row(1, 0)), ("form",)), (("least", row(2, 1, "-1/9"), row(1, 0)), ("form",)),
            (("least", ((2, 1), (True, 1), (0, 1)), row(1, 0)), ("form",)), (("quick", row(2, 1, 0), row(1, 0)), ("form",)),
            (("least", row(2, 1, 1), row(9, 9)), ("sum",)), (("least", row(2, 1, 0), row(2, 9)), ("rate", 0)),
            (("least", row(2, 1, 0), row(1, 1)), ("rate", 1)), (("least", row(2, 1, 0), row(-3, 1)), ("rate", 2)),
            (("least", row(2, 1, 0), row(0, 0)), ("time", (0, 1))), (("least", row("8/3", 0, "-1/3"), row(1, 0)), ("form",)),
            (("barred", row(-1, 1)), ("rate", 0)), (("barred", row(1, -1)), ("rate", 1)), (("barred", row(2, 1)), ("rate", 2)),
            (("barred", row(1, 2)), ("way",)), (("barred", row(0, 0)), ("way",)), (("barred", row(1)), ("form",)),
            (("barred", row(1, 2), row(1, 2)), ("form",)), (("barred",), ("form",)), (("barred", None), ("form",)),
        ]
        for value, fault in cases:
            self.assertEqual(judge_time(rates, v, value), fault, value)
            self.assertEqual(own_judge(rates, v, value), fault, value)
        self.assertEqual(judge_time([EAST], row(1, 0), ("least", row(1), row("1/2", 0))), ("time", (1, 2)))
        self.assertIsNone(judge_time([EAST], row(0, 0), ("least", row(0), row(0, 0))))
        self.assertIsNone(judge_time([EAST], row(0, -1), ("barred", row(0, "1/7"))))

    def test_any_value(self):
        rng = rng_for(4)
        told = []
        for _ in range(80):
            levels = rng.randint(1, 3)
            rates = random_rates(rng, rng.randint(1, 4), levels, 2, 0.3)
            v = random_row(rng, levels, 2, noughts=0.3)
            value = least_time(rates, v)
            others = [changed(value, rng) for _ in range(40)] + [shifted(value, rng) for _ in range(30)]
            others.append(("barred", random_row(rng, levels, 2)))
            others.append(("least", random_row(rng, len(rates), 2, False), random_row(rng, levels, 2)))
            for other in others + ANY_VALUES:
                fault = own_judge(rates, v, other)
                self.assertEqual(judge_time(rates, v, other), fault, other)
                told.append("right" if fault is None else fault[0])
        for fault in ("right", "form", "sum", "rate", "time", "way"):
            self.assertGreater(told.count(fault), 20, fault)


class Quickest(unittest.TestCase):
    def right(self, room, rates, one, other):
        plan = quickest(room, rates, one, other)
        self.assertEqual(quickest(room, tuple(rates), one, other), plan)
        self.assertIs(own_is_plan(plan, len(rates)), True)
        self.assertIsNone(own_first_out(room, rates, one, plan))
        self.assertEqual(tuple(pair(x) for x in own_far_end(rates, one, plan)), other)
        by = tuple(pair(real(y) - real(x)) for x, y in zip(one, other))
        self.assertEqual(time_of(plan), pair(own_least(rates, by)))
        return plan

    def test_examples(self):
        with self.assertRaises(NotInside) as told:
            quickest(ROOM, [EAST], ((0, 1), (1, 1)), ((2, 1), (1, 1)))
        self.assertEqual(told.exception.number, 0)

    def test_not_inside(self):
        inner = row(1, 1)
        for one, other, number in (
                (row(0, 1), inner, 0), (row(4, 1), row(0, 1), 0), (inner, row(1, 4), 1), (row(1, 4), row(1, 4), 0),
                (inner, row(0, 0), 1), (row(1, 0), inner, 0)):
            for rates in ([EAST], [EAST, WEST], [row(0, 0)]):
                with self.assertRaises(NotInside) as told:
                    quickest(ROOM, rates, one, other)
                self.assertEqual(told.exception.number, number)

    def test_no_way(self):
        rng = rng_for(5)
        found = 0
        for _ in range(60):
            levels = rng.randint(1, 4)
            room, rates = random_room(rng, levels, 99), random_rates(rng, rng.randint(1, 4), levels, 9)
            one, other = random_place(rng, room, 0), random_place(rng, room, 0)
            by = tuple(pair(real(y) - real(x)) for x, y in zip(one, other))
            if one != other and own_least(rates, by) is None:
                with self.assertRaises(NoWay) as told:
                    quickest(room, rates, one, other)
                self.assertIsNone(own_judge(rates, by, ("barred", told.exception.slope)))
                found += 1
        self.assertGreater(found, 20)

    def test_a_place_to_itself(self):
        self.assertEqual(quickest(ROOM, [EAST], row(1, 1), row(1, 1)), ())
        self.assertEqual(quickest(ROOM, [row(0, 0)], row("1/9", 1), row("1/9", 1)), ())

    def test_plans(self):
        rng = rng_for(6)
        for _ in range(120):
            levels, most = rng.randint(1, 4), rng.choice([9, 999999])
            room, rates = random_room(rng, levels, most), random_rates(rng, rng.randint(1, 4), levels, most, 0.2)
            rates += [tuple(pair(-real(x) * rng.randint(1, 5)) for x in rate) for rate in rates]
            one = random_place(rng, room, 0)
            if rng.random() < 0.5:
                room_times = [pair(Fraction(rng.randint(0, 3), rng.randint(1, 9))) for _ in rates]
                far = [real(one[i]) + sum_at(rates, room_times, i) for i in range(levels)]
                other = tuple(pair(x) for x in far)
                if not all(real(low) < x < real(high) for (low, high), x in zip(room, far)):
                    continue
            else:
                other = random_place(rng, room, 0)
                by = tuple(pair(real(y) - real(x)) for x, y in zip(one, other))
                if own_least(rates, by) is None:
                    continue
            self.right(room, rates, one, other)

    def test_near_to_walls_and_far_from_one_another(self):
        near, far = row("1/999999", "1/999999"), row("3999995/999999", "3999995/999999")
        rates = [row(999999, 0), row(0, 999999), row(-999999, 1), row(0, "-1/999999")]
        for one, other in ((near, far), (far, near), (near, row(*[x for x in ("1/999999", "3999995/999999")]))):
            plan = self.right(ROOM, rates, one, other)
            self.assertGreater(plan[0][1], 1000)
        rng = rng_for(7)
        for _ in range(15):
            room = random_room(rng, 4, 999999)
            rates = random_rates(rng, 4, 4, 999999, 0)
            rates += [tuple(pair(-real(x) * 7) for x in rate) for rate in rates]
            low = tuple(between(rng, low, pair(real(low) + (real(high) - real(low)) / 10 ** 5)) for low, high in room)
            high = tuple(between(rng, pair(real(high) - (real(high) - real(low)) / 10 ** 5), high) for low, high in room)
            self.assertEqual(end_of(rates, low, self.right(room, rates, low, high)), high)

    def test_times_of_plans(self):
        plan = quickest(ROOM, [EAST, NORTH], row(1, 1), row("7/2", 2))
        self.assertEqual(own_time(plan), real(time_for([EAST, NORTH], row("5/2", 1))))


if __name__ == "__main__":
    unittest.main()
