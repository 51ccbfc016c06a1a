import unittest
from fractions import Fraction
from itertools import product as all_of

from ledlevels.kept import freed, judge_kept, kept, kept_by_touch, kept_everywhere, out_by
from ledlevels.plans import end_of, time_of
from ledlevels.rooms import touched
from tests.helping import (
    ANY_VALUES, all_basic, are_pairs, changed, dot, is_pair, pair, random_pair, random_row, real, rng_for, row, shifted)
from tests.walking import (
    between, endless_plan, figures, kinds_of_places, own_crosses, own_end, own_first_out, own_is_plan, own_leaves,
    own_rounds, own_time, own_touched, own_walls, own_walls_form, random_place, random_rates, random_room, single_steps)

ZERO, ONE, LESS, FOUR = (0, 1), (1, 1), (-1, 1), (4, 1)
THREE = [(ONE, ZERO), (LESS, ONE), (ZERO, LESS)]
ROOM, BOTH = ((ZERO, FOUR), (ZERO, FOUR)), [(ONE, ZERO), (ZERO, ONE)]


def own_mixes(rates):
    """Whether rates mix, by a search over all lots of free columns."""
    if not rates:
        return False
    return all_basic([rate + (ONE,) for rate in rates], row(*[0] * len(rates[0]) + [1])) != []


def own_form(room, rates, value):
    """Whether a value has the form of an answer of kept."""
    if type(value) is not tuple or not value or type(value[0]) is not str:
        return False
    if value[0] == "kept":
        if len(value) != 2 or not own_is_plan(value[1], len(rates)):
            return False
        return value[1] != () and value[1][-1][1] is None
    return value[0] == "out" and len(value) == 3 and own_walls_form(value[1], len(room)) and are_pairs(
        value[2], len(room))


def own_judge(room, rates, place, value):
    """What judge_kept has to tell, by the words of the document."""
    if not own_form(room, rates, value):
        return ("form",)
    if value[0] == "kept":
        told = own_first_out(room, rates, place, value[1])
        return None if told is None else ("leaves",) + told
    for wall in value[1]:
        if wall not in own_touched(room, place):
            return ("touched", wall)
    for k, rate in enumerate(rates):
        if not any(own_crosses(rate, wall) for wall in value[1]):
            if any(own_leaves(rate, wall) for wall in value[1]) or dot(value[2], rate) <= 0:
                return ("turn", k)
    return None


class Freed(unittest.TestCase):
    def right(self, room, rates, place, lot, most):
        plan = freed(room, rates, place, lot, most)
        self.assertIs(own_is_plan(plan, len(rates)), True)
        self.assertTrue(all(n is not None for _, n in plan))
        self.assertTrue(all(turn in lot for turn, _ in single_steps(plan)))
        self.assertLess(own_time(plan), real(most))
        self.assertIsNone(own_first_out(room, rates, place, plan))
        end = tuple(pair(x) for x in own_end(rates, place, plan))
        walls = own_rounds(rates, own_touched(room, place), lot)[1]
        self.assertEqual(own_touched(room, end), tuple(walls))
        if walls == list(own_touched(room, place)):
            self.assertEqual(own_time(plan), 0)
        return plan

    def test_example(self):
        self.assertEqual(touched(ROOM, end_of(THREE, (ZERO, ZERO), freed(ROOM, THREE, (ZERO, ZERO), [0, 1], (1, 100)))),
                         ())

    def test_all_kinds_of_places(self):
        rng = rng_for(1)
        for levels in range(1, 5):
            for most in (1, 9, 999999):
                for _ in range(2 if levels == 4 else 5):
                    room, turns = random_room(rng, levels, most), rng.randint(1, 8)
                    rates = random_rates(rng, turns, levels, most, 0.5)
                    for place in kinds_of_places(rng, room):
                        lot = [rng.randrange(turns) for _ in range(rng.randint(0, 2 * turns))]
                        time = rng.choice([(1, 999999), (999999, 1), (1, 1), random_pair(rng, 999999, False)])
                        self.right(room, rates, place, lot, time if time[0] else (1, 7))

    def test_walls_that_come_off_one_behind_the_other(self):
        far = [row(1, 0, 0, 0), row(-999999, "1/999999", 0, 0), row(-999999, -999999, "1/999999", 0),
               row(-999999, -999999, -999999, "1/999999")]
        for width in (pair("1/999999"), (1, 1), (999999, 1)):
            room = ((ZERO, width),) * 4
            corner = row(0, 0, 0, 0)
            for lot in ([0, 1, 2, 3], [3, 2, 1, 0, 0], [0, 2, 3], [1, 2, 3], [0, 1], []):
                for most in ((1, 999999), (999999, 1)):
                    plan = self.right(room, far, corner, lot, most)
                    self.assertEqual(freed(room, tuple(far), corner, tuple(lot), most), plan)
        room = ((pair("-1/999998"), pair("-1/999999")),) * 4
        self.right(room, far, row(*["-1/999998"] * 4), [0, 1, 2, 3], (1, 1))

    def test_four_steps_are_shorter_than_most_together(self):
        rates = [row(*[1 if i == k else 0 for i in range(4)]) for k in range(4)]
        room = ((ZERO, (999999, 1)),) * 4
        for most in ((1, 1), (1, 2), (2, 1), (4, 1), (4, 3), (999999, 1), (1, 999999), (999999, 999998)):
            self.assertEqual(len(list(single_steps(self.right(room, rates, row(0, 0, 0, 0), [0, 1, 2, 3], most)))), 4)

    def test_no_wall_comes_off(self):
        self.assertEqual(time_of(freed(ROOM, THREE, (ONE, ONE), [0, 1, 2], (1, 1))), ZERO)
        self.assertEqual(time_of(freed(ROOM, BOTH, (FOUR, FOUR), [0, 1], (1, 1))), ZERO)
        self.assertEqual(time_of(freed(ROOM, THREE, (ZERO, ZERO), [], (1, 1))), ZERO)

    def test_other_walls_are_not_come_to(self):
        room = ((ZERO, pair("1/999999")), (ZERO, (1, 1)))
        for rates in ([row(999999, 1)], [row(999999, 999999)], [row(1, 0), row(-1, 1)]):
            self.right(room, rates, (ZERO, ZERO), [0, len(rates) - 1], (999999, 1))


class Kept(unittest.TestCase):
    def right(self, room, rates, place):
        value = kept(room, rates, place)
        self.assertIsNone(own_judge(room, rates, place, value), (room, rates, place, value))
        self.assertIsNone(judge_kept(room, rates, place, value))
        self.assertEqual(kept(room, tuple(rates), place), value)
        if value[0] == "kept":
            self.assertLessEqual(figures(value[1]), 200)
        return value

    def test_examples(self):
        self.assertEqual(
            [kept(ROOM, THREE, (ZERO, ZERO))[0],
             judge_kept(ROOM, THREE, (ZERO, ZERO), kept(ROOM, THREE, (ZERO, ZERO))), kept(ROOM, BOTH, (ONE, ONE))[0]],
            ["kept", None, "out"])
        self.assertEqual(
            [judge_kept(ROOM, BOTH, (ONE, ONE), ("out", (), (ONE, ZERO))),
             judge_kept(ROOM, BOTH, (ONE, ONE), ("out", ((0, 1),), (ONE, ONE)))],
            [("turn", 1), ("touched", (0, 1))])
        self.assertEqual(
            [judge_kept(ROOM, BOTH, (ONE, ONE), ("kept", ((((0, ONE),), None),))),
             judge_kept(ROOM, BOTH, (ONE, ONE), ("kept", ()))],
            [("leaves", (3, 1), (0, 1)), ("form",)])

    def test_all_kinds_of_places(self):
        rng = rng_for(2)
        words = []
        for levels in range(1, 5):
            for _ in range(16 if levels < 4 else 5):
                most = rng.choice([1, 3, 999999])
                room = random_room(rng, levels, rng.choice([9, 999999]))
                rates = random_rates(rng, rng.randint(1, 8), levels, most, rng.choice([0.2, 0.6]))
                mixes = {}
                for place in kinds_of_places(rng, room):
                    words.append(self.right(room, rates, place)[0])
                    lot = tuple(own_rounds(rates, own_touched(room, place), range(len(rates)))[0])
                    if lot not in mixes:
                        mixes[lot] = own_mixes([rates[k] for k in lot])
                    self.assertIs(words[-1] == "kept", mixes[lot])
        self.assertGreater(words.count("kept"), 100)
        self.assertGreater(words.count("out"), 100)

    def test_rates_that_mix(self):
        rng = rng_for(3)
        words = []
        for _ in range(60):
            levels = rng.randint(1, 4)
            room = random_room(rng, levels, 99)
            rates = random_rates(rng, rng.randint(1, 7), levels, 99, 0.3)
            rates.append(tuple(pair(-sum(real(rate[i]) for rate in rates)) for i in range(levels)))
            rng.shuffle(rates)
            words.append(self.right(room, rates, random_place(rng, room, 0.3))[0])
            self.assertEqual(self.right(room, rates, random_place(rng, room, 0))[0], "kept")
        self.assertIn("out", words)

    def test_lots_without_a_turn(self):
        self.assertEqual(self.right(ROOM, BOTH, (FOUR, FOUR))[:2], ("out", ((0, 1), (1, 1))))
        self.assertEqual(self.right(((ZERO, ONE),), [(ONE,)], (ONE,))[:2], ("out", ((0, 1),)))

    def test_turns_that_stand_still(self):
        still = [row(1, 1), row(0, 0)]
        for place in kinds_of_places(rng_for(4), ROOM):
            self.assertEqual(self.right(ROOM, still, place)[0], "kept")
        self.assertEqual(self.right(ROOM, [row(1, 0), row(-1, 0)], (FOUR, FOUR))[0], "kept")
        self.assertEqual(self.right(ROOM, [row(1, 0), row(-1, 1)], (FOUR, ONE))[0], "out")

    def test_figures_of_places_hard_to_keep(self):
        rng = rng_for(5)
        words = []
        for _ in range(40):
            rates = []
            for k in range(4):
                rates.append(tuple(
                    pair(-rng.randint(900000, 999999)) if i < k else pair(Fraction(1, rng.randint(900000, 999999)))
                    if i == k else ZERO for i in range(4)))
            rates += [tuple(pair(Fraction(rng.choice([-1, 1]) * rng.randint(900000, 999999), rng.randint(900000, 999999)))
                            for _ in range(4)) for _ in range(4)]
            rng.shuffle(rates)
            spans = [rng.randint(999000, 999998) for _ in range(4)]
            room = tuple((pair(Fraction(1, n + 1)), pair(Fraction(1, n))) for n in spans)
            words.append(self.right(room, rates, tuple(low for low, _ in room))[0])
        self.assertGreater(words.count("kept"), 20)

    def test_eight_rates_of_four_levels(self):
        rng = rng_for(6)
        for _ in range(6):
            room, rates = random_room(rng, 4, 999999), random_rates(rng, 8, 4, 999999, 0)
            for share in (0, 0.3, 1):
                self.right(room, rates, random_place(rng, room, share))


class JudgeKept(unittest.TestCase):
    def test_each_fault(self):
        rates = [row(1, 0), row(-1, 0), row(0, 1), row(1, -1)]
        corner, inner = (ZERO, ZERO), (ONE, ONE)
        lap = (((0, ONE), (1, ONE)), None)
        low = ((0, -1), (1, -1))
        cases = [
            (corner, ("kept", (lap,)), None), (inner, ("kept", (lap,)), None), ((FOUR, ONE), ("kept", (lap,)),
                                                                               ("leaves", ZERO, (0, 1))),
            (corner, ["kept", (lap,)], ("form",)), (corner, ("kept", [lap]), ("form",)), (corner, ("kept",), ("form",)),
            (corner, ("kept", (lap,), ()), ("form",)), (corner, ("stay", (lap,)), ("form",)),
            (corner, ("kept", ()), ("form",)), (corner, ("kept", ((lap[0], 5),)), ("form",)),
            (corner, ("kept", (lap, lap)), ("form",)), (corner, ("kept", ((((4, ONE),), None),)), ("form",)),
            (corner, ("kept", ((((True, ONE), (1, ONE)), None),)), ("form",)),
            (corner, ("kept", ((((0, (1, 3)), (1, (1, 2))), None),)), ("leaves", (2, 3), (0, -1))),
            (corner, ("kept", ((((0, (1, 2)), (1, (1, 3))), None),)), ("leaves", (56, 3), (0, 1))),
            (corner, ("kept", ((((2, ONE),), 3), (((2, ONE),), 2), lap)), ("leaves", (4, 1), (1, 1))),
            (inner, ("out", (), row(1, 1)), ("turn", 1)), (inner, ("out", (), row(0, 0)), ("turn", 0)),
            (inner, ("out", low, row(1, 1)), ("touched", (0, -1))), ((ZERO, ONE), ("out", low, row(1, 1)),
                                                                     ("touched", (1, -1))),
            (corner, ("out", low, row(1, 1)), ("turn", 0)), (corner, ("out", low[::-1], row(1, 1)), ("form",)),
            (corner, ("out", low + low[1:], row(1, 1)), ("form",)), (corner, ("out", list(low), row(1, 1)), ("form",)),
            (corner, ("out", low, row(1)), ("form",)), (corner, ("out", low, row(1, 1, 1)), ("form",)),
            (corner, ("out", low, list(row(1, 1))), ("form",)), (corner, ("out", low), ("form",)),
            (corner, ("out", ((0, -1), (1, True)), row(1, 1)), ("form",)),
            (corner, ("out", ((False, -1),), row(1, 1)), ("form",)), (corner, ("out", ((2, 1),), row(1, 1)), ("form",)),
            (corner, ("out", ((0, 0),), row(1, 1)), ("form",)), (corner, ("out", ([0, -1],), row(1, 1)), ("form",)),
            (corner, ("out", (), ((True, 1), ONE)), ("form",)), (corner, ("out", None, row(1, 1)), ("form",)),
        ]
        for place, value, fault in cases:
            self.assertEqual(judge_kept(ROOM, rates, place, value), fault, value)
            self.assertEqual(own_judge(ROOM, rates, place, value), fault, value)

    def test_turns_of_an_out(self):
        room, rates = ROOM, [row(1, -1), row(1, 0), row(-1, -1)]
        corner = (ZERO, ZERO)
        self.assertIsNone(judge_kept(room, [row(1, -1), row(0, -1)], corner, ("out", ((1, -1),), row(0, 0))))
        self.assertIsNone(judge_kept(room, rates, corner, ("out", ((1, -1),), row(1, 5))))
        self.assertEqual(judge_kept(room, rates, corner, ("out", ((1, -1),), row(0, 5))), ("turn", 1))
        self.assertEqual(judge_kept(room, rates, corner, ("out", ((0, -1),), row(1, 0))), ("turn", 0))
        self.assertEqual(judge_kept(room, [row(1, 1)], corner, ("out", ((1, -1),), row(1, 1))), ("turn", 0))
        self.assertIsNone(judge_kept(room, [row(1, 1)], corner, ("out", (), row(1, "-1/2"))))

    def test_any_value(self):
        rng = rng_for(7)
        told = []
        for _ in range(70):
            levels = rng.randint(1, 2)
            room, rates = random_room(rng, levels, 9), random_rates(rng, rng.randint(1, 4), levels, 2)
            place = random_place(rng, room)
            values = [kept(room, rates, place), ("kept", endless_plan(rng, len(rates), 2))]
            values.append(("out", own_touched(room, place), random_row(rng, levels, 1)))
            others = list(values)
            for value in values:
                others += [changed(value, rng) for _ in range(25)] + [shifted(value, rng) for _ in range(12)]
            for walls in [own_walls(levels)[:1], own_walls(levels)[-1:], []]:
                others.append(("out", tuple(walls), random_row(rng, levels, 1, noughts=0.5)))
            for other in others + ANY_VALUES:
                fault = own_judge(room, rates, place, other)
                self.assertEqual(judge_kept(room, rates, place, other), fault, other)
                told.append("right" if fault is None else fault[0])
        for fault in ("right", "form", "leaves", "touched", "turn"):
            self.assertGreater(told.count(fault), 20, fault)

    def test_great_plans(self):
        rng = rng_for(8)
        room, rates = random_room(rng, 4, 999999), random_rates(rng, 8, 4, 999999, 0)
        slow = [tuple(pair(real(x) / 10 ** 16) for x in rate) for rate in rates]
        laps = tuple((tuple((rng.randrange(8), random_pair(rng, 999999, False)) for _ in range(20)),
                      rng.randint(1, 10 ** 9)) for _ in range(39))
        for last in (laps[0][0], ((0, ONE), (1, (1, 2)))):
            for most in (rates, slow):
                value = ("kept", laps + ((last, None),))
                place = random_place(rng, room, 0)
                self.assertEqual(judge_kept(room, most, place, value), own_judge(room, most, place, value))


class OutBy(unittest.TestCase):
    def test_examples(self):
        self.assertEqual(
            [out_by(ROOM, BOTH, (ONE, (2, 1)), (), (ONE, ONE)),
             out_by(ROOM, BOTH, (FOUR, FOUR), ((0, 1), (1, 1)), (ZERO, ZERO))],
            [(5, 1), (0, 1)])
        self.assertEqual(out_by(((ZERO, FOUR),), [((2, 1),)], (ONE,), (), (ONE,)), (3, 2))

    def test_against_sums(self):
        rng = rng_for(9)
        times = []
        for _ in range(300):
            levels = rng.randint(1, 4)
            room, rates = random_room(rng, levels, 99), random_rates(rng, rng.randint(1, 6), levels, 9)
            place = random_place(rng, room)
            value = kept(room, rates, place)
            if value[0] == "kept":
                continue
            _, walls, slope = value
            for factor in (1, Fraction(1, 10 ** 40), 10 ** 40):
                steep = tuple(pair(real(x) * factor) for x in slope)
                told = out_by(room, rates, place, walls, steep)
                self.assertTrue(is_pair(told))
                gains = [dot(steep, rate) for rate in rates if not any(own_crosses(rate, wall) for wall in walls)]
                if not gains:
                    self.assertEqual(told, ZERO)
                    break
                most = max(dot(steep, z) for z in all_of(*room))
                self.assertEqual(real(told), (most - dot(steep, place)) / min(gains))
                times.append(told)
        self.assertGreater(len(times), 100)

    def test_only_turns_that_are_let_count(self):
        rates = [row(1, 0), row("1/9", 1), row(3, 0)]
        self.assertEqual(out_by(ROOM, rates, (ONE, FOUR), ((1, 1),), row(1, 0)), (3, 1))
        self.assertEqual(out_by(ROOM, rates, (ONE, FOUR), (), row(1, 0)), (27, 1))
        self.assertEqual(out_by(ROOM, rates, (ONE, FOUR), [(1, 1)], row(1, -2)), (11, 1))
        self.assertEqual(out_by(ROOM, [row(-1, 0)], (FOUR, ONE), (), row("-1/2", 0)), (4, 1))


class ByTouch(unittest.TestCase):
    def test_examples(self):
        self.assertEqual(
            [kept_by_touch([(ONE,), (ZERO,)], 1), kept_by_touch([(ONE,)], 1), kept_everywhere(THREE, 2),
             kept_everywhere(BOTH, 2)],
            [{(): True, ((0, -1),): True, ((0, 1),): True}, {(): False, ((0, -1),): False, ((0, 1),): False},
             True, False])

    def test_each_entry(self):
        rng = rng_for(10)
        told, everywhere = [], []
        for levels in range(1, 5):
            for _ in range(12 if levels < 4 else 4):
                rates = random_rates(rng, rng.randint(1, 8), levels, rng.choice([1, 999999]), rng.choice([0.3, 0.7]))
                table = kept_by_touch(rates, levels)
                self.assertIs(type(table), dict)
                self.assertEqual(len(table), 3 ** levels)
                room = ((ZERO, FOUR),) * levels
                for place in kinds_of_places(rng, room):
                    self.assertIs(table[own_touched(room, place)], kept(room, rates, place)[0] == "kept")
                told += list(table.values())
                everywhere.append(kept_everywhere(rates, levels))
                self.assertIs(everywhere[-1], False not in table.values())
                self.assertEqual(kept_by_touch(tuple(rates), levels), table)
                self.assertIs(kept_everywhere(tuple(rates), levels), everywhere[-1])
        self.assertGreater(min(told.count(True), told.count(False)), 100)
        self.assertIn(False, everywhere)

    def test_kept_everywhere(self):
        self.assertIs(kept_everywhere([row(1), row(-1)], 1), True)
        self.assertIs(kept_everywhere([row(1), row(-1), row(5)], 1), True)
        self.assertIs(kept_everywhere([row(2, -1), row(-1, 2), row(-1, -1)], 2), False)
        self.assertIs(kept_everywhere([row(0, 0, 0, 0), row(1, 1, 1, 1)], 4), True)
        ring = [row(*[s if i == k else 0 for i in range(4)]) for k in range(4) for s in (-1, 1)]
        self.assertIs(kept_everywhere(ring, 4), True)
        told = kept_by_touch(ring, 4)
        told.clear()
        self.assertEqual(len(kept_by_touch(ring, 4)), 81)
        self.assertEqual(len(ring), 8)

    def test_place_very_near_to_walls(self):
        near = (between(rng_for(11), ZERO, (1, 999999)), (1, 999999))
        value = kept(ROOM, THREE, near)
        self.assertIsNone(judge_kept(ROOM, THREE, near, value))
        self.assertEqual(value[0], "kept")


if __name__ == "__main__":
    unittest.main()
