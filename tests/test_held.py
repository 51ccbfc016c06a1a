import unittest
from fractions import Fraction
from itertools import product as all_of

from ledlevels.errors import TooMany
from ledlevels.held import driven_by, held, judge_held
from tests.helping import (
    ANY_VALUES, all_basic, are_pairs, changed, dot, is_pair, pair, random_row, real, rng_for, row, shifted, sum_at)
from tests.walking import kinds_of_places, random_place, random_room

UP, TWICE, DOWN = ((1, 1),), ((2, 1),), ((-1, 1),)
MILL, WILD = [(UP, TWICE), (DOWN,)], [(UP, DOWN), (UP,)]


def own_choices(mill):
    return list(all_of(*[range(len(turn)) for turn in mill]))


def chosen(mill, choice):
    return [turn[k] for turn, k in zip(mill, choice)]


def own_mixes(rates):
    """Whether rates mix, by a search."""
    return all_basic([rate + ((1, 1),) for rate in rates], row(*[0] * len(rates[0]) + [1])) != []


def own_judge(mill, value):
    """What judge_held has to tell, by the words of the document."""
    many, levels = own_choices(mill), len(mill[0][0])
    if type(value) is not tuple or not value or type(value[0]) is not str:
        return ("form",)
    if value[0] == "held":
        if len(value) != 2 or type(value[1]) not in (list, tuple) or len(value[1]) != len(many):
            return ("form",)
        if not all(are_pairs(shares, len(mill)) for shares in value[1]):
            return ("form",)
        for k, (choice, shares) in enumerate(zip(many, value[1])):
            if any(real(share) < 0 for share in shares) or sum(real(share) for share in shares) != 1:
                return ("share", k)
            if any(sum_at(chosen(mill, choice), shares, i) != 0 for i in range(levels)):
                return ("rates", k)
        return None
    if value[0] != "driven" or len(value) != 3 or type(value[1]) is not tuple or len(value[1]) != len(mill):
        return ("form",)
    if not all(type(k) is int and 0 <= k < len(turn) for k, turn in zip(value[1], mill)):
        return ("form",)
    if not are_pairs(value[2], levels):
        return ("form",)
    for k, rate in enumerate(chosen(mill, value[1])):
        if dot(value[2], rate) <= 0:
            return ("climbs", k)
    return None


def random_mill(rng, levels, turns, corners, most=3, noughts=0.3):
    """A mill with about so many corners a turn."""
    mill = []
    for _ in range(turns):
        turn = []
        for _ in range(rng.randint(1, corners)):
            corner = random_row(rng, levels, most, noughts=noughts)
            if corner not in turn:
                turn.append(corner)
        mill.append(tuple(turn))
    return mill


def mostly_held(rng, levels):
    """A mill of one or two levels that is often held: each turn blows about one way."""
    ways = [row(*[s if i == k else 0 for i in range(levels)]) for k in range(levels) for s in (-1, 1)]
    mill = []
    for way in ways[:4]:
        turn = {tuple(pair(real(x) * rng.randint(1, 5) + Fraction(rng.randint(-1, 1), 9)) for x in way) for _ in range(2)}
        mill.append(tuple(sorted(turn)))
    return mill


class Held(unittest.TestCase):
    def right(self, mill):
        value = held(mill)
        self.assertIsNone(own_judge(mill, value), (mill, value))
        self.assertIsNone(judge_held(mill, value))
        self.assertEqual(held(tuple(mill)), value)
        if value[0] == "held":
            self.assertIs(type(value[1]), list)
            self.assertIsNone(judge_held(tuple(mill), ("held", tuple(value[1]))))
        return value

    def test_examples(self):
        self.assertEqual(held(MILL), ("held", [((1, 2), (1, 2)), ((1, 3), (2, 3))]))
        self.assertEqual(
            [held(WILD)[:2], judge_held(WILD, held(WILD)), judge_held(WILD, ("driven", (1, 0), UP)), judge_held(MILL, None)],
            [("driven", (0, 0)), None, ("climbs", 0), ("form",)])
        self.assertEqual(driven_by((((0, 1), (4, 1)),), WILD, ((1, 1),), (0, 0), UP), (3, 1))

    def test_both_answers(self):
        rng = rng_for(1)
        words = []
        for _ in range(250):
            levels = rng.randint(1, 3)
            if rng.random() < 0.5:
                mill = mostly_held(rng, rng.randint(1, 2))
            else:
                mill = random_mill(rng, levels, rng.randint(1, 4), 3, rng.choice([1, 9, 999999]))
            if len(own_choices(mill)) > 64:
                continue
            words.append(self.right(mill)[0])
            self.assertIs(words[-1] == "held", all(own_mixes(chosen(mill, choice)) for choice in own_choices(mill)))
        self.assertGreater(min(words.count("held"), words.count("driven")), 40)

    def test_one_corner_for_each_turn(self):
        self.assertEqual(self.right([(UP,), (DOWN,)]), ("held", [row("1/2", "1/2")]))
        self.assertEqual(self.right([(row(0, 0),)]), ("held", [row(1)]))
        self.assertEqual(self.right([(UP,), (TWICE,)])[:2], ("driven", (0, 0)))
        self.assertEqual(self.right([(row(1, 0),), (row(0, 1),), (row(-1, -1),)])[0], "held")

    def test_the_last_choice_alone_drives(self):
        mill = [(UP, TWICE), (DOWN, row("-1/2"), row("1/9"))]
        self.assertEqual(self.right(mill)[:1], ("driven",))
        self.assertEqual(judge_held(mill, ("driven", (0, 2), UP)), None)
        self.assertEqual(judge_held(mill, ("driven", (1, 2), row(5))), None)
        self.assertEqual(judge_held(mill, ("driven", (0, 1), UP)), ("climbs", 1))

    def test_sixty_four_choices_and_more(self):
        rng = rng_for(2)
        turns = [tuple(random_row(rng, 3, 999999) for _ in range(3)) for _ in range(3)]
        turns.append(tuple(random_row(rng, 3, 999999) for _ in range(2)))
        self.right(turns)
        ring = [tuple(row(*[(k if i == n else 1) for i in range(3)]) for k in (1, 2, 3)) for n in range(3)]
        ring.append((row(-1, -1, -1), row(-2, -2, -2)))
        self.right(ring)
        full = [(UP, TWICE, row(3), row(4)), (DOWN, row(-2), row(-3), row(-4)), (row(0), row(5), row(6), row(7))]
        self.assertEqual(len(self.right(full)[1]), 64)
        over = [tuple(turn) + (row(99),) for turn in full[:1]] + full[1:]
        for mill in (over, [turn[:3] for turn in full] + [(UP, TWICE, DOWN)]):
            with self.assertRaises(TooMany):
                held(mill)
            for value in (None, ("driven", (0,) * len(mill), UP), ("held", [])):
                with self.assertRaises(TooMany):
                    judge_held(mill, value)

    def test_lists_are_new(self):
        mill = [turn for turn in MILL]
        held(mill)[1].append(None)
        self.assertEqual(len(held(mill)[1]), 2)
        self.assertEqual(mill, MILL)


class JudgeHeld(unittest.TestCase):
    def test_each_fault(self):
        half, third = row("1/2", "1/2"), row("1/3", "2/3")
        cases = [
            (("held", [half, third]), None), (("held", (half, third)), None), (["held", [half, third]], ("form",)),
            (("held", [half]), ("form",)), (("held", [half, third, third]), ("form",)), (("held", []), ("form",)),
            (("held", [half, list(third)]), ("form",)), (("held", [half, row(1)]), ("form",)),
            (("held", [half, row(1, 0, 0)]), ("form",)), (("held", [half, ((True, 1), (0, 1))]), ("form",)),
            (("held", [half, None]), ("form",)), (("held", {0: half, 1: third}), ("form",)), (("held",), ("form",)),
            (("held", [half, third], 0), ("form",)), (("keeps", [half, third]), ("form",)), (None, ("form",)),
            (("held", [row(-1, 2), third]), ("share", 0)), (("held", [row(1, 1), third]), ("share", 0)),
            (("held", [half, row(0, 0)]), ("share", 1)), (("held", [third, row(0, 0)]), ("rates", 0)),
            (("held", [half, half]), ("rates", 1)), (("held", [row(3, -2), half]), ("share", 0)),
            (("held", [row(2, 2), row(-1, 2)]), ("share", 0)), (("held", [row(1, 0), row(-1, 2)]), ("rates", 0)),
            (("driven", (0, 0), UP), ("climbs", 1)), (("driven", (1, 0), DOWN), ("climbs", 0)),
            (("driven", (0, 0), row(0)), ("climbs", 0)), (("driven", (2, 0), UP), ("form",)),
            (("driven", (0, 1), UP), ("form",)), (("driven", (-1, 0), UP), ("form",)), (("driven", (0,), UP), ("form",)),
            (("driven", (0, 0, 0), UP), ("form",)), (("driven", (False, 0), UP), ("form",)),
            (("driven", [0, 0], UP), ("form",)), (("driven", (0, 0), [(1, 1)]), ("form",)),
            (("driven", (0, 0), row(1, 1)), ("form",)), (("driven", (0, 0)), ("form",)), (["driven", (0, 0), UP], ("form",)),
        ]
        for value, fault in cases:
            self.assertEqual(judge_held(MILL, value), fault, value)
            self.assertEqual(own_judge(MILL, value), fault, value)
        self.assertIsNone(judge_held(WILD, ("driven", (0, 0), row("1/9"))))
        self.assertEqual(judge_held([(row(1, 0),), (row(-1, 0),), (row(0, 1),)], ("held", [row(0, 0, 1)])), ("rates", 0))

    def test_any_value(self):
        rng = rng_for(3)
        told = []
        for _ in range(80):
            mill = mostly_held(rng, rng.randint(1, 2)) if rng.random() < 0.5 else random_mill(rng, 2, 2, 2)
            value = held(mill)
            others = [changed(value, rng) for _ in range(35)] + [shifted(value, rng) for _ in range(25)]
            for choice in own_choices(mill)[:3]:
                others.append(("driven", choice, random_row(rng, len(mill[0][0]), 3)))
            even = tuple(pair(Fraction(1, len(mill))) for _ in mill)
            others.append(("held", [even] * len(own_choices(mill))))
            for other in others + ANY_VALUES:
                fault = own_judge(mill, other)
                self.assertEqual(judge_held(mill, other), fault, other)
                told.append("right" if fault is None else fault[0])
        for fault in ("right", "form", "share", "rates", "climbs"):
            self.assertGreater(told.count(fault), 20, fault)


class DrivenBy(unittest.TestCase):
    def test_against_sums(self):
        rng = rng_for(4)
        found = 0
        for _ in range(200):
            levels = rng.randint(1, 3)
            mill = random_mill(rng, levels, rng.randint(1, 3), 3, rng.choice([3, 999999]), 0)
            value = held(mill)
            if value[0] == "held":
                continue
            _, choice, slope = value
            room = random_room(rng, levels, rng.choice([9, 999999]))
            for place in kinds_of_places(rng, room)[:9] + [random_place(rng, room)]:
                for factor in (1, Fraction(1, 10 ** 30), 10 ** 30):
                    steep = tuple(pair(real(x) * factor) for x in slope)
                    told = driven_by(room, mill, place, choice, steep)
                    most = max(dot(steep, z) for z in all_of(*room))
                    least = min(dot(steep, rate) for rate in chosen(mill, choice))
                    self.assertTrue(is_pair(told))
                    self.assertEqual(real(told), (most - dot(steep, place)) / least)
                    self.assertEqual(driven_by(room, tuple(mill), place, choice, steep), told)
                    found += 1
        self.assertGreater(found, 500)

    def test_only_the_choice_counts(self):
        room = (((0, 1), (4, 1)), ((0, 1), (4, 1)))
        mill = [(row(1, 0), row(-9, 0)), (row(0, 1), row(2, 2))]
        self.assertEqual(driven_by(room, mill, row(1, 1), (0, 1), row(1, 1)), (6, 1))
        self.assertEqual(driven_by(room, mill, row(1, 1), (0, 0), row(1, 2)), (9, 1))
        self.assertEqual(driven_by(room, mill, row(4, 4), (0, 0), row(1, 2)), (0, 1))
        self.assertEqual(driven_by(room, mill, row(0, 4), (1, 0), row(-1, 2)), (0, 1))


if __name__ == "__main__":
    unittest.main()
