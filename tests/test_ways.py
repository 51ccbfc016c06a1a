import unittest
from fractions import Fraction

from ledlevels.ways import judge_way, way
from tests.helping import ANY_VALUES, changed, pair, random_pair, random_row, real, rng_for, row, shifted
from tests.walking import (
    kinds_of_places, own_far_end, own_first_out, own_judge_way, own_lot, own_touched, random_place, random_plan,
    random_rates, random_room)

LINE, UP, DOWN = (((0, 1), (4, 1)),), ((1, 1),), ((-1, 2),)
ZERO, THREE = ((0, 1),), ((3, 1),)
SQUARE, TILTS = (((0, 1), (4, 1)), ((0, 1), (4, 1))), [((2, 1), (-1, 1)), ((-1, 1), (2, 1))]
CORNER, INNER = ((0, 1), (0, 1)), ((1, 1), (1, 1))
BOTH = ((0, -1), (1, -1))
FALL = ("fall", (("ahead", 0, BOTH), ("ahead", 1, BOTH), ("end", ((-1, 1), (-1, 1)))))


class Way(unittest.TestCase):
    def right(self, room, rates, one, other):
        value = way(room, rates, one, other)
        self.assertIsNone(own_judge_way(room, rates, one, other, value), (room, rates, one, other, value))
        self.assertIsNone(judge_way(room, rates, one, other, value))
        self.assertEqual(way(room, tuple(rates), one, other), value)
        if value[0] == "way":
            self.assertIsNone(own_first_out(room, rates, one, value[1]))
            self.assertEqual(tuple(pair(x) for x in own_far_end(rates, one, value[1])), other)
        return value

    def test_examples(self):
        self.assertEqual(
            [way(SQUARE, TILTS, CORNER, INNER)[0], way(SQUARE, TILTS, INNER, ((2, 1), (2, 1)))[0],
             way(SQUARE, TILTS, CORNER, CORNER)],
            ["fall", "way", ("way", ())])
        self.assertEqual(
            [judge_way(SQUARE, TILTS, CORNER, INNER, FALL), judge_way(SQUARE, TILTS, CORNER, INNER, ("fall", FALL[1][1:]))],
            [None, ("paper", 1)])
        self.assertEqual(
            [judge_way(LINE, [UP, DOWN], ZERO, THREE, ("way", ((((0, (3, 1)),), 1),))),
             judge_way(LINE, [UP, DOWN], ZERO, THREE, ("way", ((((0, (1, 1)),), 2),)))],
            [None, ("ends", ((2, 1),))])
        self.assertEqual(
            [judge_way(LINE, [UP, DOWN], ZERO, THREE, ("way", ((((1, (1, 1)),), 1),))),
             judge_way(LINE, [UP, DOWN], ZERO, THREE, ("way",))],
            [("out", (0, 1), (0, -1)), ("form",)])

    def test_all_kinds_of_places(self):
        rng = rng_for(1)
        words, papers = [], []
        for levels, times in ((1, 20), (2, 10), (3, 4)):
            for _ in range(times):
                room = random_room(rng, levels, rng.choice([9, 999999]))
                rates = random_rates(rng, rng.randint(1, 4), levels, rng.choice([1, 9, 999999]), 0.4)
                if rng.random() < 0.6:
                    rates += [tuple(pair(-real(x) * 2) for x in rate) for rate in rates]
                places = kinds_of_places(rng, room)
                pairs = [(one, other) for one in places for other in places]
                for one, other in pairs if levels < 3 else rng.sample(pairs, 25):
                    value = self.right(room, rates, one, other)
                    words.append(value[0])
                    self.assertIs(value[0] == "fall", own_lot(room, rates, one, other, range(len(rates))) is None)
                    if value[0] == "fall":
                        papers += [paper[0] for paper in value[1]]
        self.assertGreater(min(words.count("way"), words.count("fall")), 150)
        for word in ("ahead", "behind", "end"):
            self.assertGreater(papers.count(word), 20)

    def test_from_a_place_to_itself(self):
        rng = rng_for(2)
        for levels in range(1, 4):
            room, rates = random_room(rng, levels, 9), random_rates(rng, 3, levels, 9)
            for place in kinds_of_places(rng, room):
                self.assertEqual(way(room, rates, place, place), ("way", ()))

    def test_corners_that_are_come_off_wall_by_wall(self):
        rates = [row(1, 0, 0, 0), row(-3, 1, 0, 0), row(-2, -5, 1, 0), row(-1, -1, -7, 1)]
        room = ((row(0)[0], row(1)[0]),) * 4
        low, high = row(0, 0, 0, 0), row(1, 1, 1, 1)
        inner = row("1/2", "1/3", "1/4", "1/5")
        self.assertEqual(self.right(room, rates, low, inner)[0], "way")
        self.assertEqual(self.right(room, rates, high, inner)[0], "fall")
        back = [tuple(pair(-real(x)) for x in rate) for rate in rates]
        self.assertEqual(self.right(room, back, inner, low)[0], "way")
        self.assertEqual(self.right(room, back, low, inner)[0], "fall")
        both = rates + back
        for one in (low, high, inner, row(0, 1, 0, 1), row(1, 0, "1/2", 0)):
            for other in (low, high, inner, row(1, 1, 0, 0)):
                self.right(room, both, one, other)
        self.assertEqual(self.right(room, both, low, high)[0], "way")
        steep = [tuple(pair(real(x) * (999999 if real(x) < 0 else Fraction(1, 999999))) for x in rate) for rate in rates]
        self.assertEqual(self.right(room, steep, low, inner)[0], "way")

    def test_along_a_wall(self):
        rates = [row(1, 0), row(-1, 0)]
        self.assertEqual(self.right(SQUARE, rates, row(1, 4), row(3, 4))[0], "way")
        self.assertEqual(self.right(SQUARE, rates, row(0, 0), row(4, 0))[0], "way")
        self.assertEqual(self.right(SQUARE, rates, row(0, 0), row(4, 4))[0], "fall")
        self.assertEqual(self.right(SQUARE, rates + [row(1, 1)], row(0, 0), row(4, 4))[0], "way")
        self.assertEqual(self.right(SQUARE, rates + [row(2, 1)], row(0, 0), row(0, 4))[0], "way")
        self.assertEqual(self.right(SQUARE, rates + [row(1, 1)], row(4, 0), row(4, 4))[0], "way")
        self.assertEqual(self.right(SQUARE, rates[:1] + [row(1, 1)], row(4, 0), row(4, 4))[0], "fall")
        self.assertEqual(self.right(SQUARE, [row(1, 1), row(-1, 1)], row(4, 0), row(4, 4))[0], "way")

    def test_a_turn_off_by_a_slope_that_would_have_freed_others(self):
        rates = [row(0, 1, 0, 1), row(0, 0, 2, -1), row(2, 0, -1, 2)]
        room = ((row(0)[0], row(4)[0]),) * 4
        for order in ([0, 1, 2], [2, 1, 0], [1, 0, 2]):
            told = self.right(room, [rates[k] for k in order], row(1, 1, 0, 0), row(3, 1, 1, 1))
            self.assertEqual([paper[0] for paper in told[1]], ["slope", "ahead", "ahead", "end"])
            self.assertEqual(told[1][0][1], order.index(0))
        back = [tuple(pair(-real(x)) for x in rate) for rate in rates]
        told = self.right(room, back, row(3, 1, 1, 1), row(1, 1, 0, 0))
        self.assertEqual([paper[0] for paper in told[1]], ["slope", "behind", "behind", "end"])
        more = rates + [row(0, -1, 0, 0)]
        self.assertEqual(self.right(room, more, row(1, 1, 0, 0), row(3, 1, 1, 1))[0], "fall")
        self.assertEqual(self.right(room, more, row(1, 1, 0, 0), row(3, 1, 1, 2))[0], "way")

    def test_falls_and_ways_of_few_turns(self):
        rates = [row(1, -1), row(-1, 0), row(0, 1)]
        self.assertEqual(self.right(SQUARE, rates[:2], CORNER, INNER)[0], "fall")
        self.assertEqual(self.right(SQUARE, rates, CORNER, INNER)[0], "way")
        self.assertEqual(self.right(SQUARE, rates, row(4, 4), INNER)[0], "way")
        self.assertEqual(self.right(SQUARE, [row(1, 1)], INNER, CORNER)[0], "fall")
        self.assertEqual(self.right(SQUARE, [row(0, 0)], INNER, CORNER)[0], "fall")

    def test_four_levels_eight_rates_six_figures(self):
        rng = rng_for(3)
        words = []
        for _ in range(10):
            room, rates = random_room(rng, 4, 999999), random_rates(rng, 8, 4, 999999, 0)
            for share in (0, 0.3, 1):
                words.append(self.right(room, rates, random_place(rng, room, share), random_place(rng, room, share))[0])
            rates = rates[:4] + [tuple(pair(-real(x)) for x in rate) for rate in rates[:4]]
            for share in (0, 0.2, 0.5):
                words.append(self.right(room, rates, random_place(rng, room, share), random_place(rng, room, share))[0])
        self.assertGreater(min(words.count("way"), words.count("fall")), 10)

    def test_very_near_to_walls(self):
        near, far = ((1, 999999), (1, 999999)), ((3999995, 999999), (3999995, 999999))
        rates = [row(999999, 999998), row(-999999, 1), row("1/999999", -999999)]
        self.assertEqual(self.right(SQUARE, rates, near, far)[0], "way")
        self.assertEqual(self.right(SQUARE, rates, far, near)[0], "way")
        self.right(SQUARE, rates, CORNER, far)
        self.right(SQUARE, rates, far, CORNER)


class JudgeWay(unittest.TestCase):
    def test_each_fault(self):
        rates = [row(1, 0), row(-1, 0), row(0, 1)]
        one, other = row(0, 0), row(1, 0)
        wall, end = ((1, -1),), ("end", row(-1, 0))
        step = (0, (1, 1))
        cases = [
            (one, other, ("way", (((step,), 1),)), None), (one, other, ("way", ((((0, (1, 3)),), 3),)), None),
            (one, other, ["way", (((step,), 1),)], ("form",)), (one, other, ("way", [((step,), 1)]), ("form",)),
            (one, other, ("way", (((step,), None),)), ("form",)), (one, other, ("way", (((step,), True),)), ("form",)),
            (one, other, ("way", ((((3, (1, 1)),), 1),)), ("form",)), (one, other, ("way", None), ("form",)),
            (one, other, ("way", (), ()), ("form",)), (one, other, ("ways", (((step,), 1),)), ("form",)),
            (one, other, ("way", ()), ("ends", one)), (one, other, ("way", (((step,), 4),)), ("ends", row(4, 0))),
            (one, other, ("way", (((step,), 5),)), ("out", (4, 1), (0, 1))),
            (one, other, ("way", ((((1, (1, 1)),), 1),)), ("out", (0, 1), (0, -1))),
            (one, other, ("way", ((((2, (1, 1)), (0, (5, 1)), (1, (4, 1))), 1),)), ("out", (5, 1), (0, 1))),
            (one, one, ("way", ()), None), (one, one, ("way", (((step, (1, (1, 1))), 7),)), None),
            (one, other, ("fall", ()), ("form",)), (one, other, ("fall", (end,)), ("paper", 0)),
            (one, other, ("fall", [end]), ("form",)), (one, other, ("fall", (end, end)), ("form",)),
            (other, one, ("fall", (("slope", 2, row(0, 1)), ("end", row(1, 0)))), ("paper", 1)),
            (other, one, ("fall", (("slope", 2, row(0, 1)), ("slope", 2, row(0, 1)), ("end", row(1, 0)))), ("paper", 1)),
            (other, one, ("fall", (("slope", 2, row(0, 1)),)), ("form",)),
            (other, one, ("fall", (("end", row(1, 0)), ("slope", 2, row(0, 1)))), ("form",)),
            (other, row(1, 4), ("fall", (("behind", 0, ((1, 1),)), end)), ("paper", 0)),
            (other, one, ("fall", (("slope", 2, row(0, 1)), ("slope", 3, row(0, 1)), end)), ("form",)),
            (other, one, ("fall", (("slope", True, row(0, 1)), end)), ("form",)),
            (other, one, ("fall", (("slope", -1, row(0, 1)), end)), ("form",)),
            (other, one, ("fall", (["slope", 2, row(0, 1)], end)), ("form",)),
            (other, one, ("fall", (("slope", 2, row(0)), end)), ("form",)),
            (other, one, ("fall", (("slope", 2, wall), end)), ("form",)),
            (other, one, ("fall", (("ahead", 2, row("1/2", 1)), end)), ("form",)),
            (other, one, ("fall", (("ahead", 2, [(1, -1)]), end)), ("form",)),
            (other, one, ("fall", (("ahead", 2, ((1, -1), (0, -1))), end)), ("form",)),
            (other, one, ("fall", (("ahead", 2, ((1, -1), (1, -1))), end)), ("form",)),
            (other, one, ("fall", (("ahead", 2, ((1, True),)), end)), ("form",)),
            (other, one, ("fall", (("ahead", 2, ((2, 1),)), end)), ("form",)),
            (other, one, ("fall", (("ahead", 2), end)), ("form",)),
            (other, one, ("fall", (("ahead", 2, (), ()), end)), ("form",)),
            (other, one, ("fall", (("ahead", 2, ()), end)), ("paper", 0)),
            (other, one, ("fall", (("apart", 2, wall), end)), ("form",)),
            (other, one, ("fall", (("end", 2, row(-1, 0)),)), ("form",)),
            (other, one, ("fall", (("end",),)), ("form",)), (other, one, ("fall", (("end", row(1)),)), ("form",)),
            (other, one, ("fall", (None, end)), ("form",)), (other, one, ("fall",), ("form",)),
            (row(0, 1), one, ("fall", (("behind", 2, wall), end)), ("paper", 1)),
            (row(0, 1), one, ("fall", (("behind", 2, wall), ("end", row(0, 1)))), None),
            (row(0, 1), one, ("fall", (("end", row(0, 1)),)), None),
        ]
        for start, goal, value, fault in cases:
            self.assertEqual(judge_way(SQUARE, rates, start, goal, value), fault, value)
            self.assertEqual(own_judge_way(SQUARE, rates, start, goal, value), fault, value)

    def test_falls_in_other_orders(self):
        papers = FALL[1]
        for value, fault in (
                (("fall", (papers[1], papers[0], papers[2])), ("paper", 1)), (("fall", papers[:1] + papers[2:]), ("paper", 1)),
                (("fall", papers[2:]), ("paper", 0)), (("fall", papers[:1] + papers), ("paper", 1)),
                (("fall", papers[:2]), ("form",)), (("fall", papers + papers[2:]), ("form",))):
            told = judge_way(SQUARE, TILTS, CORNER, INNER, value)
            self.assertEqual(told, own_judge_way(SQUARE, TILTS, CORNER, INNER, value))
            if value[1][0] != papers[1]:
                self.assertEqual(told, fault, value)
        self.assertIsNone(judge_way(SQUARE, TILTS, CORNER, INNER, ("fall", (papers[1], papers[0], papers[2]))))

    def test_any_value(self):
        rng = rng_for(4)
        told = []
        for _ in range(120):
            levels, turns = rng.randint(1, 2), rng.randint(1, 5)
            room, rates = random_room(rng, levels, 9), random_rates(rng, turns, levels, 2, 0.5)
            one, other = random_place(rng, room, 0.7), random_place(rng, room, 0.7)
            value = way(room, rates, one, other)
            others = [changed(value, rng) for _ in range(30)] + [shifted(value, rng) for _ in range(15)]
            if value[0] == "fall":
                for n, paper in enumerate(value[1]):
                    for parts in ((), (paper, paper), (value[1][0], paper), (("slope", 0, random_row(rng, levels, 1)),)):
                        others.append(("fall", value[1][:n] + parts + value[1][n + 1:]))
                others.append(("fall", value[1][-2::-1] + value[1][-1:]))
            near = own_touched(room, one)
            others.append(("fall", (("ahead", rng.randrange(turns), near), ("end", random_row(rng, levels, 1)))))
            others.append(("way", random_plan(rng, turns, 2)))
            for one_more in others + ANY_VALUES:
                fault = own_judge_way(room, rates, one, other, one_more)
                self.assertEqual(judge_way(room, rates, one, other, one_more), fault, one_more)
                told.append("right" if fault is None else fault[0])
        for fault in ("right", "form", "out", "ends", "paper"):
            self.assertGreater(told.count(fault), 50, fault)

    def test_great_plans_and_papers(self):
        rng = rng_for(5)
        room, rates = random_room(rng, 4, 999999), random_rates(rng, 8, 4, 999999, 0)
        slow = [tuple(pair(real(x) / 10 ** 30) for x in rate) for rate in rates]
        plan = tuple((tuple((rng.randrange(8), random_pair(rng, 999999, False)) for _ in range(20)),
                      rng.randint(1, 10 ** 9)) for _ in range(40))
        one = random_place(rng, room, 0)
        end = tuple(pair(x) for x in own_far_end(slow, one, plan))
        self.assertIsNone(judge_way(room, slow, one, end, ("way", plan)))
        self.assertEqual(judge_way(room, slow, one, one, ("way", plan)), ("ends", end))
        self.assertEqual(judge_way(room, rates, one, one, ("way", plan))[0], "out")
        great = tuple(pair(Fraction(rng.randint(1, 10 ** 199), rng.randint(10 ** 199, 10 ** 200))) for _ in range(4))
        papers = tuple(("slope", k % 8, great) for k in range(300)) + (("end", great),)
        fault = judge_way(room, rates, one, one, ("fall", papers))
        self.assertEqual(fault, own_judge_way(room, rates, one, one, ("fall", papers)))


if __name__ == "__main__":
    unittest.main()
