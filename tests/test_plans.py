import unittest
from fractions import Fraction

from ledlevels.errors import Endless, TooLate
from ledlevels.plans import (
    cut, drift, end_of, first_out, gone_back, is_plan, joined, place_at, time_of, times_used)
from tests.helping import (
    ANY_VALUES, GREAT, are_pairs, changed, is_pair, pair, random_pair, random_row, real, rng_for, row, shifted)
from tests.walking import (
    endless_plan, kinds_of_places, own_end, own_first_out, own_is_plan, own_place_at, own_time, plain_walk,
    random_place, random_plan, random_rates, random_room, random_steps, single_steps)

HALL = (((0, 1), (4, 1)), ((0, 1), (7, 2)))
UP, DOWN, SIDE = ((1, 1), (0, 1)), ((-1, 1), (0, 1)), ((0, 1), (1, 2))
RATES, START = [UP, DOWN, SIDE], ((0, 1), (0, 1))
THERE, EVER = ((((0, (1, 1)), (1, (1, 1))), 2), (((2, (3, 1)),), 1)), ((((0, (1, 1)), (2, (1, 1))), None),)
BILLION = 10 ** 9


def great_plan(rng, turns, often=BILLION):
    """Forty laps of twenty steps with numbers of six figures."""
    return tuple((tuple((rng.randrange(turns), random_pair(rng, 999999, False)) for _ in range(20)),
                  rng.randint(1, often)) for _ in range(40))


class Examples(unittest.TestCase):
    def test_examples(self):
        self.assertEqual(
            [is_plan(THERE, 3), is_plan(THERE, 2), is_plan(((((0, (0, 1)),), None),), 1), is_plan((), 1),
             time_of(THERE), time_of(EVER)],
            [True, False, False, True, (7, 1), None])
        self.assertEqual(
            [drift(RATES, EVER[0][0]), times_used(THERE, 3), end_of(RATES, START, THERE),
             place_at(RATES, START, EVER, (5, 2))],
            [((1, 1), (1, 2)), ((2, 1), (2, 1), (3, 1)), ((0, 1), (3, 2)), ((3, 2), (1, 2))])
        self.assertEqual(
            [first_out(HALL, RATES, START, THERE), first_out(HALL, RATES, START, EVER),
             first_out(HALL, RATES, START, ((((1, (1, 1)),), 1),))],
            [None, ((8, 1), (0, 1)), ((0, 1), (0, -1))])
        self.assertEqual(
            [joined(THERE, EVER) == THERE + EVER, gone_back(THERE)[1], time_of(cut(EVER, (5, 2))),
             end_of(RATES, START, cut(EVER, (5, 2)))],
            [True, (((1, (1, 1)), (0, (1, 1))), 2), (5, 2), ((3, 2), (1, 2))])
        with self.assertRaises(Endless):
            joined(EVER, THERE)


class IsPlan(unittest.TestCase):
    def test_each_edge(self):
        step = (0, (1, 1))
        none = (0, (0, 1))
        cases = [
            ((), True), ([], False), ((((step,), 1),), True), ([((step,), 1)], False), (([(step,), 1],), False),
            ((([step], 1),), False), ((((list(step),), 1),), False), (((((0, [1, 1]),), 1),), False),
            ((((step,), True),), False), ((((step,), False),), False), (((((False, (1, 1)),), 1),), False),
            (((((True, (1, 1)),), 1),), False), (((((0, (True, 1)),), 1),), False), (((((0, (1, True)),), 1),), False),
            ((((step,), None),), True), ((((step,), None), ((step,), 1)), False), ((((step,), None),) * 2, False),
            ((((step,), 1), ((step,), None)), True), ((((none,), None),), False), ((((none, none), None),), False),
            ((((none, step), None),), True), ((((none,), 5),), True), (((((0, (-1, 2)),), 1),), False),
            (((((0, (2, 4)),), 1),), False), (((((0, (0, 2)),), 1),), False), (((((0, (1, -1)),), 1),), False),
            (((((0, (1, 0)),), 1),), False), (((((2, (1, 1)),), 1),), True), (((((3, (1, 1)),), 1),), False),
            (((((-1, (1, 1)),), 1),), False), ((((), 1),), False), ((((), None),), False), ((((step,), 0),), False),
            ((((step,), -1),), False), ((((step,), GREAT),), True), ((((step,), (1, 1)),), False), ((((step,),),), False),
            ((((step,), 1, 1),), False), ((((step + (1,),), 1),), False), ((((step,), "1"),), False),
            (((step,), 1), False), ((step,), False), (((((GREAT, (1, 1)),), 1),), False), (None, False),
            (((((0, (GREAT, 3)),), 1),), True), (((((0, 1),), 1),), False), (((None, 1),), False), ((None,), False),
        ]
        for value, told in cases:
            self.assertIs(is_plan(value, 3), told, value)
            self.assertIs(own_is_plan(value, 3), told, value)

    def test_any_value(self):
        rng = rng_for(1)
        told = []
        for _ in range(150):
            turns = rng.randint(1, 8)
            plan = rng.choice([random_plan, endless_plan])(rng, turns)
            self.assertIs(is_plan(plan, turns), True)
            for value in [changed(plan, rng) for _ in range(60)] + [shifted(plan, rng) for _ in range(10)]:
                self.assertIs(is_plan(value, turns), own_is_plan(value, turns), value)
                told.append(is_plan(value, turns))
        self.assertGreater(min(told.count(True), told.count(False)), 500)
        for value in ANY_VALUES:
            self.assertIs(is_plan(value, 2), own_is_plan(value, 2), value)

    def test_long_plans(self):
        long = (((0, (1, 1)),) * 600, 1)
        self.assertIs(is_plan((long,) * 3, 1), True)
        self.assertIs(is_plan((long,) * 3 + ((((1, (1, 1)),), 1),), 1), False)


class Sums(unittest.TestCase):
    def test_against_sums_lap_by_lap(self):
        rng = rng_for(2)
        for _ in range(300):
            levels, turns = rng.randint(1, 4), rng.randint(1, 8)
            rates, start = random_rates(rng, turns, levels, 9), random_row(rng, levels, 9)
            plan = random_plan(rng, turns)
            self.assertEqual(time_of(plan), pair(own_time(plan)))
            used = times_used(plan, turns)
            self.assertTrue(are_pairs(used, turns))
            self.assertEqual([real(x) for x in used], [
                sum(real(time) for turn, time in single_steps(plan) if turn == k) for k in range(turns)])
            self.assertEqual(end_of(rates, start, plan), tuple(pair(x) for x in own_end(rates, start, plan)))
            self.assertEqual(end_of(tuple(rates), start, plan), end_of(rates, start, plan))
            for steps, _ in plan:
                by = own_end(rates, row(*[0] * levels), ((steps, 1),))
                self.assertEqual(drift(rates, steps), tuple(pair(x) for x in by))
                self.assertEqual(drift(tuple(rates), steps), drift(rates, steps))

    def test_no_time_and_no_laps(self):
        self.assertEqual([time_of(()), times_used((), 2), end_of(RATES, START, ())], [(0, 1), row(0, 0), START])
        none = ((((0, (0, 1)), (1, (0, 1))), 7), (((2, (0, 1)),), BILLION))
        self.assertEqual([time_of(none), times_used(none, 4)], [(0, 1), row(0, 0, 0, 0)])
        self.assertEqual([end_of(RATES, SIDE, none), drift(RATES, none[0][0])], [SIDE, row(0, 0)])
        self.assertEqual(first_out(HALL, RATES, START, none), None)
        self.assertEqual(times_used(THERE, 5), row(2, 2, 3, 0, 0))

    def test_for_ever(self):
        rng = rng_for(3)
        for _ in range(60):
            rates, plan = random_rates(rng, 3, 2, 9), endless_plan(rng, 3)
            self.assertIsNone(time_of(plan))
            self.assertIsNone(end_of(rates, START, plan))
            for call in (lambda: times_used(plan, 3), lambda: joined(plan, THERE), lambda: joined(plan, ()),
                         lambda: joined(plan, plan), lambda: gone_back(plan)):
                with self.assertRaises(Endless):
                    call()

    def test_many_laps_and_great_plans(self):
        rng = rng_for(4)
        steps = ((0, (1, 3)), (2, (2, 1)), (0, (1, 6)))
        plan = ((steps, BILLION),)
        self.assertEqual(time_of(plan), (5 * BILLION // 2, 1))
        self.assertEqual(times_used(plan, 3), row(BILLION // 2, 0, 2 * BILLION))
        self.assertEqual(end_of(RATES, START, plan), row(BILLION // 2, BILLION))
        rates = random_rates(rng, 8, 4, 999999)
        great = great_plan(rng, 8)
        once = [own_end(rates, row(0, 0, 0, 0), ((lap, 1),)) for lap, _ in great]
        end = [sum(n * by[i] for by, (_, n) in zip(once, great)) for i in range(4)]
        self.assertEqual(end_of(rates, row(0, 0, 0, 0), great), tuple(pair(x) for x in end))
        self.assertEqual(real(time_of(great)), sum(n * own_time(((lap, 1),)) for lap, n in great))


class PlaceAt(unittest.TestCase):
    def test_against_a_walk(self):
        rng = rng_for(5)
        for _ in range(150):
            levels, turns = rng.randint(1, 4), rng.randint(1, 5)
            rates, start = random_rates(rng, turns, levels, 9), random_row(rng, levels, 9)
            plan = rng.choice([random_plan, endless_plan])(rng, turns)
            is_endless = bool(plan) and plan[-1][1] is None
            ends, gone = [Fraction(0)], Fraction(0)
            for _, time in single_steps(plan, 3):
                gone += real(time)
                ends.append(gone)
            times = ends + [(x + y) / 2 for x, y in zip(ends, ends[1:])] + [gone * Fraction(rng.randint(0, 99), 99)]
            for time in times:
                told = place_at(rates, start, plan, pair(time))
                self.assertEqual(told, tuple(pair(x) for x in own_place_at(rates, start, plan, time, 3)))
            self.assertEqual(place_at(rates, start, plan, (0, 1)), start)
            if not is_endless:
                self.assertEqual(place_at(tuple(rates), start, plan, pair(gone)), end_of(rates, start, plan))
                for more in (Fraction(1), Fraction(1, 10 ** 30)):
                    with self.assertRaises(TooLate):
                        place_at(rates, start, plan, pair(gone + more))

    def test_no_plan(self):
        self.assertEqual(place_at(RATES, SIDE, (), (0, 1)), SIDE)
        with self.assertRaises(TooLate):
            place_at(RATES, SIDE, (), (1, 10 ** 29))

    def test_in_the_middle_of_many_laps(self):
        plan = ((((0, (1, 3)), (2, (2, 3))), BILLION), (((1, (5, 1)),), 2))
        time = pair(BILLION // 2 + Fraction(1, 2))
        self.assertEqual(place_at(RATES, START, plan, time), row(Fraction(BILLION // 2 + 1, 3),
                                                                  Fraction(BILLION // 2, 3) + Fraction(1, 12)))
        self.assertEqual(place_at(RATES, START, plan, pair(BILLION + 7)), row(Fraction(BILLION, 3) - 7,
                                                                              Fraction(BILLION, 3)))
        far = 10 ** 29
        ever = ((((0, (1, 3)), (2, (2, 3))), None),)
        self.assertEqual(place_at(RATES, START, ever, pair(far + Fraction(1, 3))),
                         row(Fraction(far + 1, 3), Fraction(far, 3)))
        told = place_at(RATES, START, ever, pair(Fraction(10 ** 29, 10 ** 29 + 1)))
        self.assertEqual(told, row("1/3", (Fraction(10 ** 29, 10 ** 29 + 1) - Fraction(1, 3)) / 2))


class Laps(unittest.TestCase):
    def test_joined(self):
        rng = rng_for(6)
        for _ in range(60):
            one, other = random_plan(rng, 3), rng.choice([random_plan, endless_plan])(rng, 3)
            self.assertEqual(joined(one, other), one + other)
            self.assertIs(type(joined(one, other)), tuple)
            self.assertIs(is_plan(joined(one, other), 3), True)
        self.assertEqual([joined((), ()), joined((), EVER), joined(THERE, ())], [(), EVER, THERE])

    def test_gone_back(self):
        rng = rng_for(7)
        for _ in range(100):
            rates, start, plan = random_rates(rng, 3, 2, 9), random_row(rng, 2, 9), random_plan(rng, 3)
            told = gone_back(plan)
            self.assertEqual(told, tuple((tuple(reversed(steps)), n) for steps, n in reversed(plan)))
            self.assertIs(is_plan(told, 3), True)
            self.assertEqual(gone_back(told), plan)
            other = [tuple(pair(-real(x)) for x in rate) for rate in rates]
            self.assertEqual(end_of(other, end_of(rates, start, plan), told), start)
        self.assertEqual(gone_back(()), ())

    def stands(self, plan, laps):
        """The turns and how long each stands, steps of no time left out, alike neighbours put together."""
        out = []
        for turn, time in single_steps(plan, laps):
            if out and out[-1][0] == turn:
                out[-1][1] += real(time)
            elif real(time):
                out.append([turn, real(time)])
        return out

    def right_cut(self, plan, time, laps=4):
        told = cut(plan, pair(time))
        self.assertIs(is_plan(told, 9), True)
        self.assertEqual(time_of(told), pair(time))
        rest = time
        want = []
        for turn, length in self.stands(plan, laps):
            if rest > 0:
                want.append([turn, min(rest, length)])
                rest -= min(rest, length)
        self.assertEqual(rest, 0)
        self.assertEqual(self.stands(told, None), want)

    def test_cut(self):
        rng = rng_for(8)
        for _ in range(150):
            plan = rng.choice([random_plan, endless_plan])(rng, 3)
            ends, gone = [Fraction(0)], Fraction(0)
            for _, time in single_steps(plan, 3):
                gone += real(time)
                ends.append(gone)
            for time in ends + [(x + 2 * y) / 3 for x, y in zip(ends, ends[1:])]:
                self.right_cut(plan, time)
            self.assertEqual(time_of(cut(plan, (0, 1))), (0, 1))
            if not plan or plan[-1][1] is not None:
                with self.assertRaises(TooLate):
                    cut(plan, pair(gone + Fraction(1, 10 ** 29)))

    def test_cut_of_many_laps(self):
        steps = ((0, (1, 3)), (1, (0, 1)), (2, (2, 3)))
        plan = ((((1, (7, 1)),), 1), (steps, BILLION), (((1, (1, 1)),), 3))
        for time in (7 + BILLION // 3 + Fraction(1, 7), Fraction(7), Fraction(8), 7 + Fraction(1, 3), BILLION + 7):
            told = cut(plan, pair(time))
            self.assertEqual(time_of(told), pair(time))
            self.assertIs(is_plan(told, 3), True)
            whole, part = divmod(time - 7, 1)
            third = Fraction(1, 3)
            used = [whole * third + min(part, third), 7, 2 * whole * third + max(part - third, 0)]
            self.assertEqual(times_used(told, 3), row(*used))
        self.assertEqual(time_of(cut(plan, pair(BILLION + 10))), pair(BILLION + 10))
        for over in (BILLION + 11, 10 ** 29, BILLION + 10 + Fraction(1, 10 ** 29)):
            with self.assertRaises(TooLate):
                cut(plan, pair(over))
        ever = cut(((steps, None),), pair(10 ** 29 + Fraction(1, 2)))
        self.assertEqual(times_used(ever, 3), row(Fraction(10 ** 29 + 1, 3), 0, Fraction(2 * 10 ** 29, 3) + Fraction(1, 6)))
        self.assertEqual(time_of(cut((), (0, 1))), (0, 1))


class FirstOut(unittest.TestCase):
    def right(self, room, rates, start, plan):
        told = first_out(room, rates, start, plan)
        self.assertEqual(told, own_first_out(room, rates, start, plan), (room, rates, start, plan))
        if told is not None:
            self.assertTrue(type(told) is tuple and is_pair(told[0]))
        return told

    def test_the_own_walks_agree(self):
        rng = rng_for(9)
        told = []
        for _ in range(200):
            levels = rng.randint(1, 3)
            room, rates = random_room(rng, levels, 9), random_rates(rng, 3, levels, 3)
            start, plan = random_place(rng, room), random_plan(rng, 3, 3)
            told.append(plain_walk(room, rates, start, plan))
            self.assertEqual(own_first_out(room, rates, start, plan), told[-1])
        self.assertGreater(min(told.count(None), len(told) - told.count(None)), 30)

    def test_few_laps_many_laps_and_for_ever(self):
        rng = rng_for(10)
        told, places = [], []
        for _ in range(250):
            levels, turns = rng.randint(1, 4), rng.randint(1, 6)
            room, rates = random_room(rng, levels, 99), random_rates(rng, turns, levels, 9, 0.5)
            for start in (random_place(rng, room), random_place(rng, room, 0.1)):
                slow = [tuple(pair(real(x) / 1000) for x in rate) for rate in rates]
                plans = [random_plan(rng, turns, 9), endless_plan(rng, turns, 9),
                         random_plan(rng, turns, 9, often=10 ** 9), random_plan(rng, turns, 2, laps=1)]
                for plan in plans:
                    told.append(self.right(room, rates, start, plan))
                    told.append(self.right(room, slow, start, plan))
            places.append(first_out(tuple(room), tuple(rates), start, plan) == told[-2])
        self.assertGreater(min(told.count(None), len(told) - told.count(None)), 300)
        self.assertNotIn(False, places)

    def test_rounds_for_ever(self):
        rng = rng_for(11)
        told = []
        for _ in range(200):
            levels = rng.randint(1, 4)
            room, rates = random_room(rng, levels, 9), random_rates(rng, 2, levels, 9)
            rates += [tuple(pair(-real(x) / 2) for x in rate) for rate in rates]
            time = random_pair(rng, 9, False) if rng.random() < 0.5 else (1, 50)
            twice = pair(2 * real(time))
            steps = rng.choice([((0, time), (2, twice)), ((0, time), (1, time), (2, twice), (3, twice)),
                                ((2, twice), (1, time), (0, time), (3, twice))])
            if real(time):
                told.append(self.right(room, rates, random_place(rng, room), ((steps, None),)))
        self.assertGreater(min(told.count(None), len(told) - told.count(None)), 20)

    def test_at_the_beginning_of_a_step(self):
        there = ((((0, (4, 1)),), 1),)
        self.assertIsNone(first_out(HALL, RATES, START, there))
        self.assertEqual(first_out(HALL, RATES, START, there + ((((0, (1, 100)),), 1),)), ((4, 1), (0, 1)))
        self.assertEqual(first_out(HALL, RATES, START, there + ((((1, (1, 100)), (0, (1, 50))), 1),)),
                         (pair(4 + Fraction(2, 100)), (0, 1)))
        self.assertEqual(first_out(HALL, RATES, START, there + ((((2, (1, 1)), (0, (1, 50))), 1),)), ((5, 1), (0, 1)))
        self.assertEqual(first_out(HALL, RATES, START, ((((1, (1, 1)),), None),)), ((0, 1), (0, -1)))
        self.assertEqual(first_out(HALL, RATES, START, ((((0, (9, 2)),), 1),)), ((4, 1), (0, 1)))

    def test_turns_of_no_time(self):
        there = ((((0, (4, 1)), (0, (0, 1))), 1), (((0, (0, 1)),), 10 ** 30))
        self.assertIsNone(first_out(HALL, RATES, START, there))
        self.assertIsNone(first_out(HALL, RATES, START, there + ((((1, (1, 1)), (0, (1, 1)), (0, (0, 1))), None),)))
        self.assertEqual(first_out(HALL, RATES, START, there + ((((0, (0, 1)), (2, (8, 1))), 1),)), ((11, 1), (1, 1)))

    def test_several_walls_at_once(self):
        room = (((0, 1), (4, 1)),) * 3
        both = [row(1, 1, 1), row(-1, 1, -1), row(1, 2, 2), row(-1, -1, -1)]
        middle = row(2, 2, 2)
        for turn, told in ((0, ((2, 1), (0, 1))), (1, ((2, 1), (0, -1))), (2, ((1, 1), (1, 1))), (3, ((2, 1), (0, -1)))):
            self.assertEqual(first_out(room, both, middle, ((((turn, (9, 1)),), 1),)), told)
            self.assertEqual(first_out(room, both, middle, ((((turn, (1, 9)),), None),)), told)
        self.assertEqual(first_out(room, both, row(0, 4, 0), ((((1, (1, 9)),), 1),)), ((0, 1), (0, -1)))
        self.assertEqual(first_out(room, both, row(4, 4, 0), ((((1, (1, 9)),), 1),)), ((0, 1), (1, 1)))

    def test_a_later_wall_is_no_first_wall(self):
        # In the same lap one wall is passed in the first step, a lesser one in the second.
        room = (((0, 1), (4, 1)), ((0, 1), (4, 1)))
        rates = [row(0, 1), row(1, 0)]
        plan = ((((0, (2, 1)), (1, (2, 1))), 9),)
        self.assertEqual(first_out(room, rates, row(2, 2), plan), ((4, 1), (1, 1)))
        self.assertEqual(first_out(room, rates, row(3, 2), plan), ((3, 1), (0, 1)))
        self.assertEqual(first_out(room, rates, row(2, 3), plan), ((1, 1), (1, 1)))

    def test_a_way_out_and_back_within_a_lap(self):
        room = (((0, 1), (4, 1)),)
        rates = [row(1), row(-1), row("1/1000")]
        lap = ((0, (3, 1)), (1, (3, 1)), (2, (1, 1)))
        self.assertEqual(first_out(room, rates, row(0), ((lap, None),)), self.right(room, rates, row(0), ((lap, None),)))
        self.assertEqual(first_out(room, rates, row(0), ((lap, 1001),)), None)
        self.assertEqual(first_out(room, rates, row(0), ((lap, 1002),)), (pair(1001 * 7 + Fraction(3 * 1000 - 1, 1000)), (0, 1)))
        self.assertEqual(first_out(room, rates, row(0), ((lap, 1002),))[0], pair(7007 + Fraction(2999, 1000)))

    def test_n_of_thirty_figures(self):
        rng = rng_for(12)
        n = 10 ** 29 + 7
        room = (((0, 1), (1, 1)), ((0, 1), (1, 1)))
        rates = [((1, 2 * n), (0, 1)), ((0, 1), (1, n))]
        lap = ((0, (1, 1)), (1, (1, 1)))
        self.assertIsNone(first_out(room, rates, row(0, 0), ((lap, n),)))
        self.assertEqual(first_out(room, rates, row(0, 0), ((lap, n + 1),)), (pair(2 * n + 1), (1, 1)))
        self.assertEqual(first_out(room, rates, row(0, 0), ((lap, n), (((0, (n, 1)),), 1))), None)
        self.assertEqual(first_out(room, rates, row(0, 0), ((lap, n), (((0, (1, 1)),), None))), (pair(3 * n), (0, 1)))
        for _ in range(60):
            room, rates = random_room(rng, 2, 99), random_rates(rng, 3, 2, 9)
            rates = [tuple(pair(real(x) / 10 ** 28) for x in rate) for rate in rates]
            plan = random_plan(rng, 3, 9, often=10 ** 30)
            self.right(room, rates, random_place(rng, room), plan)

    def test_great_plans(self):
        rng = rng_for(13)
        for often, share in ((10 ** 9, 1), (10 ** 9, 10 ** 20), (1, 10 ** 9)):
            room = random_room(rng, 4, 999999)
            rates = random_rates(rng, 8, 4, 999999, 0)
            plan = great_plan(rng, 8, often)
            slow = [tuple(pair(real(x) / share) for x in rate) for rate in rates]
            self.right(room, slow, random_place(rng, room, 0), plan)
            self.right(room, slow, random_place(rng, room, 0), plan[:-1] + ((plan[-1][0], None),))
        rates = rates[:4] + [tuple(pair(-real(x)) for x in rate) for rate in rates[:4]]
        back = tuple(
            (steps + tuple(((turn + 4) % 8, time) for turn, time in steps[::-1]), 10 ** 30)
            for steps, _ in plan)
        slow = [tuple(pair(real(x) / 10 ** 9) for x in rate) for rate in rates]
        room = (((-999999, 1), (999999, 1)),) * 4
        start = random_place(rng, room, 0)
        self.assertIsNone(first_out(room, slow, start, back))
        self.assertEqual(end_of(slow, start, back), start)

    def test_values_of_two_hundred_figures(self):
        rng = rng_for(14)
        steps = tuple((rng.randrange(2), (rng.randint(1, 10 ** 190), 10 ** 199 + 2 * k + 1)) for k in range(300))
        steps = tuple((turn, pair(real(time))) for turn, time in steps)
        room = (((0, 1), (1, 1)), ((0, 1), (1, 1)))
        rates = [row(1, -1), row(-1, 1)]
        self.assertIsNone(first_out(room, rates, row("1/2", "1/2"), ((steps, 1),)))
        told = first_out(room, rates, row("1/2", "1/2"), ((steps, GREAT),))
        self.assertTrue(told is None or is_pair(told[0]))

    def test_plans_changed_a_little(self):
        rng = rng_for(15)
        told = []
        for _ in range(60):
            room, rates = random_room(rng, 2, 9), random_rates(rng, 3, 2, 9)
            start, plan = random_place(rng, room), endless_plan(rng, 3, 2)
            for other in [changed(plan, rng) for _ in range(30)] + [shifted(plan, rng) for _ in range(10)]:
                if is_plan(other, 3):
                    told.append(self.right(room, rates, start, other))
        self.assertGreater(len(told), 300)

    def test_all_kinds_of_places(self):
        rng = rng_for(16)
        for levels in range(1, 4):
            for _ in range(12):
                room, rates = random_room(rng, levels, 9), random_rates(rng, 3, levels, 9)
                for start in kinds_of_places(rng, room):
                    self.right(room, rates, start, ((random_steps(rng, 3, 3, 1), rng.choice([1, 3, 10 ** 9])),))


if __name__ == "__main__":
    unittest.main()
