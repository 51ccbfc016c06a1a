import unittest
from fractions import Fraction
from functools import lru_cache

from ledlevels.errors import NoAnswer, NotInside, TooMany
from ledlevels.weathered import cost_answers, held_cost, judge_held_cost, paid
from tests.helping import (
    ANY_VALUES, are_pairs, changed, dot, is_pair, pair, random_pair, random_row, real, rng_for, row, shifted)
from tests.test_costs import own_least, own_slope_fault
from tests.test_held import chosen, mostly_held, own_choices, random_mill
from tests.test_live import held_mill, random_winds
from tests.test_margins import great_mill, own_choice_form
from tests.walking import own_gap, own_walls, random_place, random_room

UP, DOWN = ((1, 1),), ((-1, 1),)
MILL, COSTS = [(UP, ((2, 1),)), (DOWN,)], [((3, 1), (1, 1)), ((1, 1),)]
ROOM = (((0, 1), (4, 1)),)


@lru_cache(maxsize=None)
def own_costs(mill, costs):
    """The least mean cost of each choice, None if its rates do not mix."""
    return [(choice, own_least(chosen(mill, choice), chosen(costs, choice))) for choice in own_choices(mill)]


def own_judge(mill, costs, value):
    """What judge_held_cost has to tell, by the words of the document."""
    levels = len(mill[0][0])
    if type(value) is not tuple or not value or type(value[0]) is not str:
        return ("form",)
    if value[0] == "driven":
        if len(value) != 3 or not own_choice_form(value[1], mill) or not are_pairs(value[2], levels):
            return ("form",)
        return own_slope_fault(chosen(mill, value[1]), value[2])
    if value[0] != "least" or len(value) != 4 or not is_pair(value[1]):
        return ("form",)
    if not own_choice_form(value[2], mill) or not are_pairs(value[3], levels):
        return ("form",)
    _, cost, choice, prices = value
    for k, (rate, its_cost) in enumerate(zip(chosen(mill, choice), chosen(costs, choice))):
        if real(its_cost) < dot(prices, rate) + real(cost):
            return ("prices", k)
    for other, least in own_costs(tuple(mill), tuple(costs)):
        if least is None or least > real(cost):
            return ("more", other)
    return None


def random_costs(rng, mill, most):
    return [tuple(random_pair(rng, most) for _ in turn) for turn in mill]


def some_mill(rng):
    kind = rng.random()
    if kind < 0.4:
        return held_mill(rng, rng.randint(1, 3), rng.choice([2, 999]), 2)
    if kind < 0.75:
        return mostly_held(rng, rng.randint(1, 2))
    return random_mill(rng, rng.randint(1, 3), rng.randint(1, 4), 2, rng.choice([1, 3, 999999]))


class HeldCost(unittest.TestCase):
    def right(self, mill, costs):
        value = held_cost(mill, costs)
        self.assertIsNone(own_judge(mill, costs, value), (mill, costs, value))
        self.assertIsNone(judge_held_cost(mill, costs, value))
        self.assertEqual(held_cost(tuple(mill), tuple(costs)), value)
        self.assertIsNone(judge_held_cost(tuple(mill), tuple(costs), value))
        if value[0] == "least":
            told = dict(own_costs(tuple(mill), tuple(costs)))
            self.assertEqual(real(value[1]), max(told.values()))
            self.assertEqual(told[value[2]], real(value[1]))
        return value

    def test_examples(self):
        self.assertEqual(held_cost(MILL, COSTS), ("least", (2, 1), (0, 0), ((1, 1),)))
        self.assertEqual(
            [judge_held_cost(MILL, COSTS, ("least", (1, 1), (1, 0), ((0, 1),))),
             judge_held_cost(MILL, COSTS, ("driven", (0, 0), UP))],
            [("more", (0, 0)), ("slope", 1)])

    def test_both_answers(self):
        rng = rng_for(1)
        words = []
        for _ in range(200):
            mill = some_mill(rng)
            costs = random_costs(rng, mill, rng.choice([2, 999999]))
            words.append(self.right(mill, costs)[0])
            self.assertIs(words[-1] == "least", all(x is not None for _, x in own_costs(tuple(mill), tuple(costs))))
        self.assertGreater(min(words.count("least"), words.count("driven")), 25)

    def test_the_last_choice_alone(self):
        mill = [(UP, row(2)), (DOWN, row("-1/2"), row("1/9"))]
        costs = [((1, 1), (1, 1)), ((1, 1), (1, 1), (-99, 1))]
        self.assertEqual(self.right(mill, costs)[0], "driven")
        mill, costs = [(row(0), UP), (DOWN, row(0))], [((1, 1), (2, 1)), ((1, 1), (3, 1))]
        self.assertEqual(self.right(mill, costs)[1:3], ((3, 1), (1, 1)))
        self.assertEqual(self.right([(row(0),)], [((-7, 2),)])[:3], ("least", (-7, 2), (0,)))

    def test_too_many_choices(self):
        mill = great_mill(rng_for(2), (3, 3, 3, 3))
        costs = [((1, 1),) * 3] * 4
        with self.assertRaises(TooMany):
            held_cost(mill, costs)
        for value in (None, ("driven", (0, 0, 0, 0), row(1, 1, 1)), ("least", (1, 1), (0, 0, 0, 0), row(0, 0, 0)), []):
            with self.assertRaises(TooMany):
                judge_held_cost(mill, costs, value)
        five = [(UP, DOWN)] * 6 + [(UP,)]
        self.assertEqual(held_cost(five, [((1, 1),) * len(turn) for turn in five])[0], "driven")
        with self.assertRaises(TooMany):
            held_cost(five + [(UP, DOWN)], [((1, 1), (1, 1))] * 8)

    def test_the_greatest_mills(self):
        rng = rng_for(3)
        for _ in range(2):
            mill = great_mill(rng)
            costs = random_costs(rng, mill, 999999)
            value = self.right(mill, costs)
            self.assertEqual(value[0], "least")

    def test_what_is_passed_stays(self):
        mill, costs = [turn for turn in MILL], [turn for turn in COSTS]
        held_cost(mill, costs)
        self.assertEqual((mill, costs), (MILL, COSTS))


class JudgeHeldCost(unittest.TestCase):
    def test_each_fault(self):
        cases = [
            (("least", (2, 1), (0, 0), UP), None), (("least", (2, 1), (0, 0), row(2)), ("prices", 0)),
            (("least", (2, 1), (0, 0), row(0)), ("prices", 1)), (("least", (3, 1), (0, 0), UP), ("prices", 0)),
            (("least", (1, 1), (0, 0), row(1)), ("more", (0, 0))),
            (("least", (1, 1), (1, 0), row(0)), ("more", (0, 0))),
            (("least", (2, 1), (1, 0), row(1)), ("prices", 0)), (("least", (2, 1), (1, 0), row(-1)), ("prices", 1)),
            (("least", (5, 3), (0, 0), row("2/3")), ("more", (0, 0))), (("driven", (0, 0), UP), ("slope", 1)),
            (("driven", (1, 0), DOWN), ("slope", 0)), (("driven", (1, 0), row(0)), ("slope", 0)),
            (("driven", (2, 0), UP), ("form",)), (("driven", (0, 0), row(1, 1)), ("form",)),
            (("driven", (0, 0)), ("form",)),
            (("driven", [0, 0], UP), ("form",)), (("driven", (0, 0), list(UP)), ("form",)),
            (("driven", (True, 0), UP), ("form",)), (["least", (2, 1), (0, 0), UP], ("form",)),
            (("least", (2, 1), (0, 1), UP), ("form",)), (("least", (2, 1), (-1, 0), UP), ("form",)),
            (("least", (2, 1), (0,), UP), ("form",)), (("least", (2, 1), (False, 0), UP), ("form",)),
            (("least", (2, 1), [0, 0], UP), ("form",)), (("least", (4, 2), (0, 0), UP), ("form",)),
            (("least", 2, (0, 0), UP), ("form",)), (("least", (2, 1), (0, 0), row(1, 1)), ("form",)),
            (("least", (2, 1), (0, 0), list(UP)), ("form",)), (("least", (2, 1), (0, 0)), ("form",)),
            (("least", (2, 1), (0, 0), UP, 0), ("form",)), (("most", (2, 1), (0, 0), UP), ("form",)), (None, ("form",)),
        ]
        for value, fault in cases:
            self.assertEqual(judge_held_cost(MILL, COSTS, value), fault, value)
            self.assertEqual(own_judge(MILL, COSTS, value), fault, value)

    def test_the_first_choice_that_is_due(self):
        mill, costs = [(row(0), UP, row(2)), (DOWN, row(0), UP)], [((1, 1), (2, 1), (3, 1)), ((1, 1), (5, 1), (9, 1))]
        for cost, choice in (((0, 1), (0, 0)), ((1, 1), (1, 0)), ((3, 2), (1, 1)), ((5, 1), (1, 2)), ((99, 1), (1, 2))):
            value = ("least", cost, (2, 2), row(-999))
            self.assertEqual(judge_held_cost(mill, costs, value), ("more", choice), cost)
            self.assertEqual(own_judge(mill, costs, value), ("more", choice), cost)
        self.assertEqual(judge_held_cost(mill, costs, ("driven", (2, 2), UP)), None)
        self.assertEqual(judge_held_cost(mill, costs, ("driven", (0, 2), UP)), ("slope", 0))

    def test_any_value(self):
        rng = rng_for(4)
        told = []
        for _ in range(80):
            mill = some_mill(rng)
            costs = random_costs(rng, mill, 3)
            value = held_cost(mill, costs)
            levels = len(mill[0][0])
            others = [changed(value, rng) for _ in range(20)] + [shifted(value, rng) for _ in range(20)]
            for choice in own_choices(mill)[-3:]:
                others.append(("driven", choice, random_row(rng, levels, 3)))
                least = dict(own_costs(tuple(mill), tuple(costs)))[choice]
                others.append(("least", pair(least or 0), choice, value[-1]))
                others.append(("least", (-99, 1), choice, random_row(rng, levels, 3)))
            for other in others + ANY_VALUES:
                fault = own_judge(mill, costs, other)
                self.assertEqual(judge_held_cost(mill, costs, other), fault, other)
                told.append("right" if fault is None else fault[0])
        for fault in ("right", "form", "prices", "more", "slope"):
            self.assertGreater(told.count(fault), 20, fault)


def own_cost_answers(mill, costs, cost, y, x):
    """The turns of which no corner has a sum above 0."""
    return [k for k, (turn, of_turn) in enumerate(zip(mill, costs))
            if max(dot(y, corner) + x * (real(its) - cost) for corner, its in zip(turn, of_turn)) <= 0]


def own_paid(room, mill, costs, cost, start, winds):
    """The pairs behind the laps; or the number of the first lap that no turn answers."""
    both = [(corner, its) for turn, of_turn in zip(mill, costs) for corner, its in zip(turn, of_turn)]
    q = max(sum(abs(real(x)) for x in corner) + abs(real(its) - cost) for corner, its in both)
    least = min(own_gap(room, [real(x) for x in start], wall) for wall in own_walls(len(room)))
    first = least / (2 * q) if q else Fraction(1)
    place, excess, out = [real(x) for x in start], Fraction(0), []
    for k, wind in enumerate(winds, 1):
        y = [pair(a - real(b)) for a, b in zip(place, start)]
        told = own_cost_answers(mill, costs, cost, y, max(excess, 0))
        if not told:
            return k
        turn = told[0]
        place = [a + real(b) * first / k for a, b in zip(place, mill[turn][wind[turn]])]
        excess += (real(costs[turn][wind[turn]]) - cost) * first / k
        out.append((tuple(pair(a) for a in place), pair(excess)))
    return out


class CostAnswers(unittest.TestCase):
    def test_examples(self):
        self.assertEqual(
            [cost_answers(MILL, COSTS, (2, 1), y, x)
             for y, x in ((((1, 1),), (0, 1)), (((0, 1),), (1, 1)), (((-1, 1),), (1, 1)))],
            [[1], [1], [0, 1]])

    def test_against_sums(self):
        rng = rng_for(5)
        many = []
        for _ in range(400):
            levels, most = rng.randint(1, 3), rng.choice([2, 999999])
            mill = random_mill(rng, levels, rng.randint(1, 4), 3, most)
            costs, cost = random_costs(rng, mill, most), random_pair(rng, most)
            y = random_row(rng, levels, rng.choice([2, 10 ** 30]), noughts=0.3)
            x = rng.choice([(0, 1), random_pair(rng, most, False)])
            told = cost_answers(mill, costs, cost, y, x)
            self.assertEqual(told, own_cost_answers(mill, costs, real(cost), y, real(x)))
            self.assertIs(type(told), list)
            self.assertEqual(cost_answers(tuple(mill), tuple(costs), cost, y, x), told)
            many.append(len(told))
        for number in range(4):
            self.assertGreater(many.count(number), 10)

    def test_just_nought_and_too_many_choices(self):
        self.assertEqual(cost_answers([(row(1),), (row(1),)], [((0, 1),), ((1, 999999),)], (1, 1), row(2), (2, 1)), [0])
        mill = [(UP, DOWN, row(0))] * 5
        self.assertEqual(cost_answers(mill, [((1, 1),) * 3] * 5, (1, 1), row(0), (7, 1)), [0, 1, 2, 3, 4])


class Paid(unittest.TestCase):
    def test_examples(self):
        self.assertEqual(paid(ROOM, MILL, COSTS, (2, 1), ((2, 1),), [(0, 0), (1, 0)]),
                         [(((7, 3),), (1, 3)), (((13, 6),), (1, 6))])
        self.assertEqual(paid(ROOM, [(UP, ((3, 1),))], [((4, 1), (1, 1))], (1, 1), ((2, 1),), [(0,)]),
                         [(((9, 4),), (3, 4))])

    def test_against_laps(self):
        rng = rng_for(6)
        stopped, signs = 0, []
        for _ in range(200):
            levels, most = rng.randint(1, 3), rng.choice([3, 99, 999999])
            room = random_room(rng, levels, most)
            mill = rng.choice([held_mill(rng, levels, most), random_mill(rng, levels, rng.randint(2, 4), 3, most)])
            costs, cost = random_costs(rng, mill, most), random_pair(rng, rng.choice([1, most]))
            start, winds = random_place(rng, room, 0), random_winds(rng, mill, rng.randint(0, 12))
            wanted = own_paid(room, mill, costs, real(cost), start, winds)
            if isinstance(wanted, int):
                stopped += wanted > 1
                with self.assertRaises(NoAnswer) as caught:
                    paid(room, mill, costs, cost, start, winds)
                self.assertEqual(caught.exception.lap, wanted)
                wanted, winds = own_paid(room, mill, costs, real(cost), start, winds[:wanted - 1]), winds[:wanted - 1]
            told = paid(room, mill, costs, cost, start, winds)
            self.assertEqual(told, wanted)
            self.assertIs(type(told), list)
            self.assertEqual(paid(room, tuple(mill), tuple(costs), cost, start, tuple(winds)), told)
            signs.extend((real(excess) > 0) - (real(excess) < 0) for _, excess in told)
        self.assertGreater(stopped, 10)
        self.assertGreater(min(signs.count(-1), signs.count(1)), 50)

    def test_what_the_held_cost_promises(self):
        rng = rng_for(7)
        for k in range(8):
            levels = 1 + k % 3
            room, mill = random_room(rng, levels, 99), held_mill(rng, levels, 99, 2)
            costs = random_costs(rng, mill, 9)
            cost = held_cost(mill, costs)[1]
            start, winds = random_place(rng, room, 0), random_winds(rng, mill, 60)
            told = paid(room, mill, costs, cost, start, winds)
            self.assertEqual(len(told), 60)
            least = min(own_gap(room, [real(x) for x in start], wall) for wall in own_walls(levels))
            for place, excess in told:
                self.assertLess(real(excess), least)
                self.assertGreater(min(own_gap(room, [real(x) for x in place], wall) for wall in own_walls(levels)), 0)

    def test_sixty_winds_of_six_figures(self):
        rng = rng_for(8)
        mill = great_mill(rng)
        costs = random_costs(rng, mill, 999999)
        cost = held_cost(mill, costs)[1]
        room = random_room(rng, 3, 999999)
        start, winds = random_place(rng, room, 0), random_winds(rng, mill, 60)
        self.assertEqual(paid(room, mill, costs, cost, start, winds),
                         own_paid(room, mill, costs, real(cost), start, winds))

    def test_an_excess_below_nought_counts_as_nought_and_goes_on(self):
        mill, costs = [(row(0),), (row(0),)], [((5, 1),), ((0, 1),)]
        told = paid(ROOM, mill, costs, (2, 1), row(2), [(0, 0)] * 3)
        self.assertEqual(told, [(row(2), (1, 1)), (row(2), (2, 3)), (row(2), (4, 9))])
        mill, costs = [(row(0),), (row(0),)], [((0, 1),), ((5, 1),)]
        told = paid(ROOM, mill, costs, (2, 1), row(2), [(0, 0)] * 3)
        self.assertEqual([excess for _, excess in told],
                         [pair(Fraction(-2, 3) * sum(Fraction(1, k) for k in range(1, n)))
                                                          for n in (2, 3, 4)])

    def test_nothing_moves(self):
        self.assertEqual(paid(ROOM, [(row(0),)], [((3, 1),)], (3, 1), row(1), [(0,), (0,)]),
                         [(row(1), (0, 1)), (row(1), (0, 1))])
        # The size of a cost less cost counts alone, too.
        self.assertEqual(paid(ROOM, [(row(0),)], [((3, 1),)], (5, 1), row(1), [(0,)]), [(row(1), (-1, 2))])

    def test_errors(self):
        for winds in ([], [(0, 0)]):
            for place in (row(0), row(4), row(-1), row(9)):
                with self.assertRaises(NotInside) as caught:
                    paid(ROOM, MILL, COSTS, (2, 1), place, winds)
                self.assertEqual(caught.exception.number, 0)
        self.assertEqual(paid(ROOM, MILL, COSTS, (2, 1), row(1), []), [])
        self.assertEqual(paid(ROOM, [(UP,)], [((1, 1),)], (1, 1), row(1), [(0,)]), [(row("3/2"), (0, 1))])
        with self.assertRaises(NoAnswer) as caught:
            paid(ROOM, [(UP,)], [((1, 1),)], (1, 1), row(1), [(0,), (0,)])
        self.assertEqual(caught.exception.lap, 2)
        with self.assertRaises(NoAnswer) as caught:
            paid(ROOM, [(row(0),)], [((1, 1),)], (0, 1), row(1), [(0,), (0,), (0,)])
        self.assertEqual(caught.exception.lap, 2)

    def test_too_many_choices_are_let(self):
        mill = [(row(0), UP, DOWN)] * 5
        told = paid(ROOM, mill, [((1, 1),) * 3] * 5, (1, 1), row(2), [(1, 0, 0, 0, 0)])
        self.assertEqual(told, [(row(3), (0, 1))])


if __name__ == "__main__":
    unittest.main()
