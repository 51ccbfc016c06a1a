import unittest
from fractions import Fraction
from functools import lru_cache
from itertools import product as all_of

from ledlevels.held import held
from ledlevels.margins import bears, judge_bears, judge_margin, margin
from tests.helping import (
    ANY_VALUES, GREAT, all_basic, are_pairs, changed, dot, is_pair, pair, random_row, real, rng_for, row, shifted,
    sum_at)
from tests.test_held import chosen, mostly_held, own_choices, random_mill
from tests.test_live import held_mill

UP, TWICE, DOWN = ((1, 1),), ((2, 1),), ((-1, 1),)
MILL, WILD = [(UP, TWICE), (DOWN,)], [(UP, DOWN), (UP,)]


def own_goals(mill, e):
    """All pairs of a choice and a row that it has to come to."""
    levels = len(mill[0][0])
    around = [row(*[0] * levels)] if real(e) == 0 else list(all_of(*[(pair(-real(e)), e)] * levels))
    return [(choice, v) for choice in own_choices(mill) for v in around]


def own_bears(mill, e):
    """Whether a mill bears e, by a search."""
    return own_bears_of(tuple(mill), e)


@lru_cache(maxsize=None)
def own_bears_of(mill, e):
    for choice, v in own_goals(mill, e):
        if not all_basic([rate + ((1, 1),) for rate in chosen(mill, choice)], v + ((1, 1),)):
            return False
    return True


def own_choice_form(value, mill):
    if type(value) is not tuple or len(value) != len(mill):
        return False
    return all(type(k) is int and 0 <= k < len(turn) for k, turn in zip(value, mill))


def own_sizes(y):
    return sum(abs(real(x)) for x in y)


def own_judge(mill, e, value):
    """What judge_bears has to tell, by the words of the document."""
    goals, levels = own_goals(mill, e), len(mill[0][0])
    if type(value) is not tuple or not value or type(value[0]) is not str:
        return ("form",)
    if value[0] == "bears":
        if len(value) != 2 or type(value[1]) not in (list, tuple) or len(value[1]) != len(goals):
            return ("form",)
        if not all(are_pairs(shares, len(mill)) for shares in value[1]):
            return ("form",)
        for k, ((choice, v), shares) in enumerate(zip(goals, value[1])):
            if any(real(share) < 0 for share in shares) or sum(real(share) for share in shares) != 1:
                return ("share", k)
            if any(sum_at(chosen(mill, choice), shares, i) != real(v[i]) for i in range(levels)):
                return ("rates", k)
        return None
    if value[0] != "gives" or len(value) != 3 or not own_choice_form(value[1], mill) or not are_pairs(value[2], levels):
        return ("form",)
    if own_sizes(value[2]) != 1:
        return ("sizes",)
    for k, rate in enumerate(chosen(mill, value[1])):
        if dot(value[2], rate) <= -real(e):
            return ("climbs", k)
    return None


def own_judge_margin(mill, value):
    """What judge_margin has to tell, by the words of the document."""
    if value is None:
        return ("held",) if own_bears(mill, (0, 1)) else None
    if type(value) is not tuple or len(value) != 3 or not is_pair(value[0]) or value[0][0] < 0:
        return ("form",)
    if not own_choice_form(value[1], mill) or not are_pairs(value[2], len(mill[0][0])):
        return ("form",)
    if not own_bears(mill, value[0]):
        return ("bears",)
    if own_sizes(value[2]) != 1:
        return ("sizes",)
    for k, rate in enumerate(chosen(mill, value[1])):
        if dot(value[2], rate) < -real(value[0]):
            return ("climbs", k)
    return None


def some_mill(rng):
    """A mill of one to three levels, not too great for a search."""
    kind = rng.random()
    if kind < 0.4:
        return held_mill(rng, rng.randint(1, 3), rng.choice([2, 999]), 2)
    if kind < 0.7:
        return mostly_held(rng, rng.randint(1, 2))
    return random_mill(rng, rng.randint(1, 3), rng.randint(1, 4), 2, rng.choice([1, 3, 999999]))


def great_mill(rng, corners=(3, 3, 3, 2)):
    """A mill that is held, of four turns with so many corners of three fractions of six figures."""
    ways = [(3, 3, 3), (-9, 1, 1), (1, -9, 1), (1, 1, -9)]
    mill = []
    for way, many in zip(ways, corners):
        turn = []
        while len(turn) < many:
            turn.append(tuple(pair(x + Fraction(rng.randint(-99999, 99999), rng.randint(100000, 999999))) for x in way))
        mill.append(tuple(turn))
    return mill


class Bears(unittest.TestCase):
    def right(self, mill, e):
        value = bears(mill, e)
        self.assertIsNone(own_judge(mill, e, value), (mill, e, value))
        self.assertIsNone(judge_bears(mill, e, value))
        self.assertEqual(bears(tuple(mill), e), value)
        if value[0] == "bears":
            self.assertIs(type(value[1]), list)
            self.assertIsNone(judge_bears(tuple(mill), e, ("bears", tuple(value[1]))))
        return value

    def test_examples(self):
        self.assertEqual(
            bears(MILL, (1, 2)),
            ("bears", [((1, 4), (3, 4)), ((3, 4), (1, 4)), ((1, 6), (5, 6)), ((1, 2), (1, 2))]))
        self.assertEqual(
            [bears(MILL, (2, 1))[0], judge_bears(MILL, (2, 1), ("gives", (0, 0), UP)),
             judge_bears(MILL, (1, 1), ("gives", (0, 0), UP))],
            ["gives", None, ("climbs", 1)])

    def test_both_answers(self):
        rng = rng_for(1)
        words = []
        for _ in range(100):
            mill = some_mill(rng)
            for e in ((0, 1), (1, 999999), pair(Fraction(rng.randint(0, 9), 9)), (999999, 1)):
                words.append(self.right(mill, e)[0])
                self.assertIs(words[-1] == "bears", own_bears(mill, e))
        self.assertGreater(min(words.count("bears"), words.count("gives")), 60)

    def test_of_nought_one_row_alone(self):
        self.assertEqual(self.right(MILL, (0, 1)), ("bears", held(MILL)[1]))
        self.assertEqual(self.right([(row(0, 0, 0),)], (0, 1)), ("bears", [row(1)]))
        self.assertEqual(self.right([(row(0, 0, 0),)], (1, 9))[:2], ("gives", (0,)))
        self.assertEqual(self.right(WILD, (0, 1))[:2], ("gives", (0, 0)))

    def test_the_order_of_choices_and_rows(self):
        mill = [(row(4, 0),), (row(-4, 1), row(-4, 0)), (row(0, 4),), (row(0, -4), row(0, -5))]
        word, told = self.right(mill, (1, 3))
        self.assertEqual((word, len(told)), ("bears", 16))
        rows = [tuple(sum_at(chosen(mill, choice), shares, i) for i in range(2))
                for choice, shares in zip([c for c in own_choices(mill) for _ in range(4)], told)]
        third = Fraction(1, 3)
        self.assertEqual(rows, [(-third, -third), (-third, third), (third, -third), (third, third)] * 4)

    def test_just_the_margin_and_more(self):
        rng = rng_for(2)
        found = 0
        for _ in range(60):
            mill = some_mill(rng)
            told = margin(mill)
            if told is not None:
                found += 1
                self.assertEqual(self.right(mill, told[0])[0], "bears")
                for more in (Fraction(1, 10 ** 9), Fraction(1, 7), 10 ** 6):
                    self.assertEqual(self.right(mill, pair(real(told[0]) + more))[0], "gives")
        self.assertGreater(found, 25)

    def test_the_greatest_mills(self):
        rng = rng_for(3)
        mill = great_mill(rng)
        self.assertEqual(len(own_choices(mill)), 54)
        self.assertEqual(len(self.right(mill, (1, 999999))[1]), 54 * 8)
        self.assertEqual(self.right(mill, (999999, 1))[0], "gives")
        many = [great_mill(rng)[0][:2] + (row(5, 5, 5), row(6, 6, 6)), great_mill(rng)[1], great_mill(rng)[2],
                great_mill(rng)[3][:1]]
        many[1] = many[1] + (row(-9, 1, 1),)
        many[2] = many[2] + (row(1, -9, 1),)
        self.assertEqual(len(own_choices(many)), 64)
        self.assertEqual(len(self.right(many, (1, 9))[1]), 64 * 8)

    def test_more_than_sixty_four_choices_are_answered(self):
        mill = great_mill(rng_for(4), (3, 3, 3, 3))
        self.assertEqual(len(own_choices(mill)), 81)
        value = self.right(mill, (1, 2))
        self.assertEqual((value[0], len(value[1])), ("bears", 81 * 8))
        told = margin(mill)
        self.assertIsNone(judge_margin(mill, told))
        self.assertEqual(judge_margin(mill, None), ("held",))

    def test_lists_are_new(self):
        mill = [turn for turn in MILL]
        bears(mill, (1, 2))[1].append(None)
        self.assertEqual(len(bears(mill, (1, 2))[1]), 4)
        self.assertEqual(mill, MILL)


class JudgeBears(unittest.TestCase):
    def test_each_fault(self):
        e = (1, 2)
        one, two, three, four = row("1/4", "3/4"), row("3/4", "1/4"), row("1/6", "5/6"), row("1/2", "1/2")
        cases = [
            (("bears", [one, two, three, four]), None), (("bears", (one, two, three, four)), None),
            (["bears", [one, two, three, four]], ("form",)), (("bears", [one, two, three]), ("form",)),
            (("bears", [one, two, three, four, four]), ("form",)), (("bears", []), ("form",)), (("bears",), ("form",)),
            (("bears", [one, two, three, list(four)]), ("form",)), (("bears", [one, two, three, row(1)]), ("form",)),
            (("bears", [one, two, three, row(1, 0, 0)]), ("form",)), (("bears", [one, two, three, None]), ("form",)),
            (("bears", [one, two, three, ((True, 1), (0, 1))]), ("form",)),
            (("bears", [one, two, three, ((2, 4), (1, 2))]), ("form",)),
            (("bears", {0: one, 1: two, 2: three, 3: four}), ("form",)), (("held", [one, two, three, four]), ("form",)),
            (("bears", [one, two, three, four], 0), ("form",)), (None, ("form",)), ("bears", ("form",)),
            (("bears", [row("-1/4", "5/4"), two, three, four]), ("share", 0)),
            (("bears", [one, row(1, 1), three, four]), ("share", 1)),
            (("bears", [one, two, row(0, 0), four]), ("share", 2)),
            (("bears", [two, two, row(0, 0), four]), ("rates", 0)),
            (("bears", [one, one, three, four]), ("rates", 1)), (("bears", [one, two, one, row(2, 0)]), ("rates", 2)),
            (("bears", [one, two, three, three]), ("rates", 3)), (("bears", [four, four, four, four]), ("rates", 0)),
            (("bears", [two, one, three, four]), ("rates", 0)),
            (("gives", (0, 0), UP), ("climbs", 1)), (("gives", (1, 0), DOWN), ("climbs", 0)),
            (("gives", (0, 0), row(2)), ("sizes",)), (("gives", (0, 0), row(0)), ("sizes",)),
            (("gives", (0, 0), row("-1/2")), ("sizes",)), (("gives", (2, 0), UP), ("form",)),
            (("gives", (0, 1), UP), ("form",)), (("gives", (-1, 0), UP), ("form",)), (("gives", (0,), UP), ("form",)),
            (("gives", (False, 0), UP), ("form",)), (("gives", [0, 0], UP), ("form",)),
            (("gives", (0, 0), [(1, 1)]), ("form",)), (("gives", (0, 0), row(1, 0)), ("form",)),
            (("gives", (0, 0)), ("form",)), (("gives", (0, 0), UP, 0), ("form",)), (["gives", (0, 0), UP], ("form",)),
        ]
        for value, fault in cases:
            self.assertEqual(judge_bears(MILL, e, value), fault, value)
            self.assertEqual(own_judge(MILL, e, value), fault, value)

    def test_products_of_just_less_e_do_not_give(self):
        self.assertEqual(judge_bears(MILL, (1, 1), ("gives", (0, 0), UP)), ("climbs", 1))
        self.assertEqual(judge_bears(MILL, (2, 1), ("gives", (1, 0), DOWN)), ("climbs", 0))
        self.assertIsNone(judge_bears(MILL, (2000001, 1000000), ("gives", (1, 0), DOWN)))
        self.assertEqual(judge_bears([(row(0, 1),)], (0, 1), ("gives", (0,), row("1/2", "1/2"))), None)
        self.assertEqual(judge_bears([(row(0, 1),)], (0, 1), ("gives", (0,), row(1, 0))), ("climbs", 0))
        self.assertEqual(judge_bears([(row(0, 1),)], (0, 1), ("gives", (0,), row("-1/2", "1/2"))), None)

    def test_any_value(self):
        rng = rng_for(5)
        told = []
        for _ in range(70):
            mill = some_mill(rng)
            e = rng.choice([(0, 1), (1, 3), (1, 10), (2, 1)])
            value = bears(mill, e)
            others = [changed(value, rng) for _ in range(25)] + [shifted(value, rng) for _ in range(15)]
            for choice in own_choices(mill)[:3]:
                y = random_row(rng, len(mill[0][0]), 3)
                others.append(("gives", choice, y))
                if own_sizes(y):
                    others.append(("gives", choice, tuple(pair(real(x) / own_sizes(y)) for x in y)))
            even = tuple(pair(Fraction(1, len(mill))) for _ in mill)
            others.append(("bears", [even] * len(own_goals(mill, e))))
            for other in others + ANY_VALUES:
                fault = own_judge(mill, e, other)
                self.assertEqual(judge_bears(mill, e, other), fault, other)
                told.append("right" if fault is None else fault[0])
        for fault in ("right", "form", "share", "rates", "sizes", "climbs"):
            self.assertGreater(told.count(fault), 20, fault)


class Margin(unittest.TestCase):
    def right(self, mill):
        value = margin(mill)
        self.assertIsNone(own_judge_margin(mill, value), (mill, value))
        self.assertIsNone(judge_margin(mill, value))
        self.assertEqual(margin(tuple(mill)), value)
        self.assertIs(value is None, held(mill)[0] == "driven")
        return value

    def test_examples(self):
        self.assertEqual(
            [margin(MILL)[0], margin(WILD), judge_margin(MILL, ((1, 1), (0, 0), DOWN)),
             judge_margin(MILL, ((2, 1), (0, 0), UP))],
            [(1, 1), None, None, ("bears",)])

    def test_against_sums(self):
        rng = rng_for(6)
        words = []
        for _ in range(120):
            words.append(self.right(some_mill(rng)) is None)
        self.assertGreater(min(words.count(True), words.count(False)), 15)

    def test_margins_of_nought(self):
        for mill in ([(row(0, 0),)], [(row(0),), (UP,)], [(row(1, 0),), (row(-1, 0),)],
                     [(row(1, 0), row(2, 0)), (row(-1, 0),), (row(0, 1),)], [(UP, row(0)), (DOWN,)]):
            self.assertEqual(self.right(mill)[0], (0, 1), mill)

    def test_the_choice_that_bears_least(self):
        mill = [(row(5), row(3), row(4)), (row(-9), row(-2), row(-7))]
        e, choice, y = self.right(mill)
        self.assertEqual((e, choice[1], y), ((2, 1), 1, UP))
        mill = [(row(5), row(1), row(4)), (row(-9), row(-2), row(-7))]
        e, choice, y = self.right(mill)
        self.assertEqual((e, choice[0], y), ((1, 1), 1, DOWN))
        self.assertIsNone(judge_margin(mill, ((1, 1), (1, 2), DOWN)))
        self.assertEqual(judge_margin(mill, ((1, 1), (0, 1), DOWN)), ("climbs", 0))

    def test_driven_by_the_last_choice_alone(self):
        self.assertIsNone(self.right([(UP, TWICE), (DOWN, row("-1/2"), row("1/9"))]))
        self.assertIsNone(self.right([(row(1, 1),), (row(-1, 1),)]))
        self.assertIsNone(self.right([(row(1, 1),)]))

    def test_the_greatest_mills(self):
        rng = rng_for(7)
        for _ in range(3):
            mill = great_mill(rng)
            told = margin(mill)
            self.assertIsNone(judge_margin(mill, told))
            value = bears(mill, told[0])
            self.assertIsNone(own_judge(mill, told[0], value))
            self.assertEqual(own_sizes(told[2]), 1)
            self.assertTrue(all(dot(told[2], rate) >= -real(told[0]) for rate in chosen(mill, told[1])))

    def test_one_level_is_the_least_of_all_ends(self):
        rng = rng_for(8)
        for _ in range(60):
            ends = [{pair(s * Fraction(rng.randint(1, 99), rng.randint(1, 9))) for _ in range(3)} for s in (1, -1, 1)]
            mill = [tuple((x,) for x in sorted(turn)) for turn in ends]
            told = self.right(mill)
            best = min(min(max(real(r[0]) for r in chosen(mill, c)), -min(real(r[0]) for r in chosen(mill, c)))
                       for c in own_choices(mill))
            self.assertEqual(real(told[0]), best)


class JudgeMargin(unittest.TestCase):
    def test_each_fault(self):
        cases = [
            (((1, 1), (0, 0), DOWN), None), (((1, 1), (0, 0), UP), None), (((1, 1), (1, 0), UP), None),
            (((1, 1), (1, 0), DOWN), ("climbs", 0)), (((1, 2), (0, 0), DOWN), ("climbs", 0)),
            (((1, 2), (0, 0), UP), ("climbs", 1)), (((0, 1), (0, 0), UP), ("climbs", 1)),
            (((1, 1), (0, 0), row(2)), ("sizes",)), (((1, 1), (0, 0), row(0)), ("sizes",)),
            (((1, 2), (0, 0), row("1/2")), ("sizes",)), (((2, 1), (0, 0), UP), ("bears",)),
            (((1000001, 1000000), (0, 0), row(5)), ("bears",)), (((GREAT, 1), (0, 0), UP), ("bears",)),
            (((1, GREAT), (0, 0), UP), ("climbs", 1)), (None, ("held",)), (((-1, 1), (0, 0), UP), ("form",)),
            ((True, (0, 0), UP), ("form",)), (((True, 1), (0, 0), UP), ("form",)), (((2, 2), (0, 0), UP), ("form",)),
            (((1, 1), (0, 1), UP), ("form",)), (((1, 1), (2, 0), UP), ("form",)), (((1, 1), (-1, 0), UP), ("form",)),
            (((1, 1), (0, False), UP), ("form",)), (((1, 1), [0, 0], UP), ("form",)), (((1, 1), (0,), UP), ("form",)),
            (((1, 1), (0, 0), list(UP)), ("form",)), (((1, 1), (0, 0), row(1, 0)), ("form",)),
            (((1, 1), (0, 0)), ("form",)), (((1, 1), (0, 0), UP, None), ("form",)), ([(1, 1), (0, 0), UP], ("form",)),
            (False, ("form",)), ((), ("form",)), ("none", ("form",)),
        ]
        for value, fault in cases:
            self.assertEqual(judge_margin(MILL, value), fault, value)
            self.assertEqual(own_judge_margin(MILL, value), fault, value)

    def test_driven_mills_bear_nothing(self):
        self.assertIsNone(judge_margin(WILD, None))
        self.assertEqual(judge_margin(WILD, ((0, 1), (0, 0), UP)), ("bears",))
        self.assertEqual(judge_margin(WILD, ((0, 1), (1, 0), row(3))), ("bears",))
        self.assertEqual(judge_margin(WILD, ((0, 1), (1, 1), UP)), ("form",))
        self.assertEqual(judge_margin([(row(0),)], None), ("held",))

    def test_any_value(self):
        rng = rng_for(9)
        told = []
        for _ in range(70):
            mill = some_mill(rng)
            value = margin(mill)
            others = [changed(value, rng) for _ in range(10)] + [shifted(value, rng) for _ in range(20)]
            for choice in own_choices(mill)[:3]:
                e = (1, 9) if value is None else rng.choice([value[0], pair(real(value[0]) / 2)])
                y = random_row(rng, len(mill[0][0]), 3)
                others.append((e, choice, y))
                if own_sizes(y):
                    others.append((e, choice, tuple(pair(real(x) / own_sizes(y)) for x in y)))
            for other in others + ANY_VALUES:
                fault = own_judge_margin(mill, other)
                self.assertEqual(judge_margin(mill, other), fault, other)
                told.append("right" if fault is None else fault[0])
        for fault in ("right", "form", "held", "bears", "sizes", "climbs"):
            self.assertGreater(told.count(fault), 20, fault)


if __name__ == "__main__":
    unittest.main()
