import unittest

from ledlevels.lots import barred, left, paper_holds
from tests.helping import are_pairs, pair, random_row, real, rng_for, row, sum_at
from tests.walking import (
    kinds_of_places, own_holds, own_lot, own_paper_form, own_touched, own_walls, random_place, random_rates,
    random_room)

LINE, UP, DOWN = (((0, 1), (4, 1)),), ((1, 1),), ((-1, 2),)
ZERO, THREE = ((0, 1),), ((3, 1),)
SQUARE = (((0, 1), (4, 1)), ((0, 1), (4, 1)))


def some_lot(rng, turns):
    """A lot, also the one of no turn."""
    return tuple(k for k in range(turns) if rng.random() < 0.6)


def some_paper(rng, room, turns, one, other):
    """A paper of any kind, that may hold or not."""
    word, k = rng.choice(["ahead", "behind", "slope", "end"]), rng.randrange(turns)
    if word in ("slope", "end"):
        slope = random_row(rng, len(room), rng.choice([1, 9]), noughts=0.5)
        return (word, slope) if word == "end" else (word, k, slope)
    near = own_touched(room, one if word == "ahead" else other)
    if rng.random() < 0.7:
        return (word, k, tuple(wall for wall in near if rng.random() < 0.7))
    return (word, k, tuple(wall for wall in own_walls(len(room)) if rng.random() < 0.4))


class Left(unittest.TestCase):
    def right(self, room, rates, one, other):
        told = left(room, rates, one, other)
        lot = own_lot(room, rates, one, other, tuple(range(len(rates))))
        self.assertIs(told is None, lot is None)
        self.assertEqual(left(room, tuple(rates), one, other), told)
        if told is not None:
            self.assertEqual([type(told), len(told), type(told[0]), type(told[1])], [tuple, 2, tuple, list])
            self.assertEqual(told[0], lot, (room, rates, one, other))
            self.assertTrue(are_pairs(tuple(told[1]), len(lot)))
            self.assertTrue(all(real(time) > 0 for time in told[1]))
            for i in range(len(room)):
                self.assertEqual(sum_at([rates[k] for k in lot], told[1], i), real(other[i]) - real(one[i]))
        return told

    def test_examples(self):
        self.assertEqual(
            [left(LINE, [UP, DOWN], ZERO, THREE)[0], left(LINE, [UP, DOWN], THREE, ZERO)[0],
             left(LINE, [UP], THREE, ZERO), left(LINE, [UP], ZERO, ZERO), left(LINE, [UP, DOWN], THREE, THREE)[0]],
            [(0, 1), (0, 1), None, ((), []), (0, 1)])

    def test_all_kinds_of_places_against_a_search(self):
        rng = rng_for(1)
        sizes = []
        for levels, times in ((1, 30), (2, 14), (3, 3)):
            for _ in range(times):
                most = rng.choice([1, 2, 9])
                room, rates = random_room(rng, levels, 9), random_rates(rng, rng.randint(1, 5), levels, most, 0.5)
                places = kinds_of_places(rng, room)
                pairs = [(one, other) for one in places for other in places]
                for one, other in pairs if levels < 3 else rng.sample(pairs, 60):
                    told = self.right(room, rates, one, other)
                    sizes.append(None if told is None else len(told[0]))
        for size in (None, 0, 1, 2, 3, 4):
            self.assertGreater(sizes.count(size), 5, size)

    def test_four_levels(self):
        rng = rng_for(2)
        sizes = []
        for _ in range(60):
            room, rates = random_room(rng, 4, 9), random_rates(rng, rng.randint(2, 6), 4, 1, 0.5)
            rates += [tuple(pair(-real(x)) for x in rate) for rate in rates[:3]]
            one = random_place(rng, room)
            other = one if rng.random() < 0.5 else random_place(rng, room)
            told = self.right(room, rates, one, other)
            sizes.append(None if told is None else len(told[0]))
        self.assertGreater(len(set(sizes)), 4)

    def test_four_levels_eight_rates_six_figures(self):
        rng = rng_for(3)
        found = 0
        for _ in range(12):
            room, rates = random_room(rng, 4, 999999), random_rates(rng, 8, 4, 999999, 0)
            for share in (0, 0.25):
                found += self.right(room, rates, random_place(rng, room, share), random_place(rng, room, share)) is not None
            rates = rates[:4] + [tuple(pair(-real(x) * 3) for x in rate) for rate in rates[:4]]
            one = random_place(rng, room, 0)
            self.assertEqual(self.right(room, rates, one, random_place(rng, room, 0))[0], tuple(range(8)))
            self.assertEqual(self.right(room, rates, one, one)[0], tuple(range(8)))
        self.assertGreater(found, 3)

    def test_from_one_to_one(self):
        self.assertEqual(self.right(SQUARE, [row(1, 0), row(-1, 0), row(0, 1)], row(1, 1), row(1, 1))[0], (0, 1))
        self.assertEqual(self.right(SQUARE, [row(1, 0), row(-1, 0), row(0, 1)], row(0, 4), row(0, 4))[0], (0, 1))
        self.assertEqual(self.right(SQUARE, [row(1, 1), row(-1, -1)], row(0, 4), row(0, 4)), ((), []))
        self.assertEqual(self.right(SQUARE, [row(0, 0)], row(0, 4), row(0, 4))[0], (0,))
        self.assertEqual(self.right(SQUARE, [row(0, 0), row(1, 0)], row(0, 4), row(1, 4))[0], (0, 1))

    def test_what_is_told_is_new(self):
        rates = [UP, DOWN]
        told = left(LINE, rates, ZERO, THREE)
        told[1].append(None)
        self.assertEqual(len(left(LINE, rates, ZERO, THREE)[1]), 2)
        left(LINE, [UP], ZERO, ZERO)[1].append(None)
        self.assertEqual(left(LINE, [UP], ZERO, ZERO), ((), []))
        self.assertEqual(rates, [UP, DOWN])


class Papers(unittest.TestCase):
    def test_examples(self):
        self.assertEqual(
            [paper_holds(LINE, [UP, DOWN], ZERO, THREE, (1,), ("ahead", 1, ((0, -1),))),
             paper_holds(LINE, [UP, DOWN], ZERO, THREE, (0, 1), ("ahead", 1, ((0, -1),)))],
            [True, False])
        self.assertEqual(
            [barred(LINE, [UP, DOWN], ZERO, THREE, (0, 1)), barred(LINE, [UP, DOWN], ZERO, THREE, ())[0]],
            [None, "end"])

    def test_each_paper(self):
        low, high = ((0, -1),), ((0, 1),)
        four = row(4)
        rates = [UP, DOWN, row(0)]
        cases = [
            (ZERO, THREE, (1, 2), ("ahead", 1, low), True), (ZERO, THREE, (1,), ("ahead", 1, ()), False),
            (ZERO, THREE, (2,), ("ahead", 1, low), False), (THREE, ZERO, (1,), ("ahead", 1, low), False),
            (ZERO, THREE, (0, 2), ("ahead", 0, low), False), (ZERO, THREE, (2,), ("ahead", 2, low), False),
            (four, THREE, (0, 2), ("ahead", 0, high), True), (four, THREE, (0, 1), ("ahead", 0, high), False),
            (ZERO, THREE, (1,), ("ahead", 1, high), False), (ZERO, THREE, (1,), ("ahead", 1, low + high), False),
            (ZERO, THREE, (), ("ahead", 1, low), False), (THREE, ZERO, (0,), ("behind", 0, low), True),
            (THREE, ZERO, (0, 2), ("behind", 0, low), True), (THREE, ZERO, (0, 1), ("behind", 0, low), False),
            (THREE, ZERO, (1,), ("behind", 1, low), False), (ZERO, THREE, (0,), ("behind", 0, low), False),
            (THREE, four, (1, 2), ("behind", 1, high), True), (THREE, four, (0, 1), ("behind", 1, high), False),
            (THREE, ZERO, (1,), ("behind", 0, low), False), (THREE, ZERO, (), ("behind", 0, low), False),
            (THREE, ZERO, (0,), ("slope", 0, UP), True), (THREE, ZERO, (0, 1), ("slope", 0, UP), False),
            (THREE, ZERO, (0, 2), ("slope", 2, UP), False), (THREE, ZERO, (2,), ("slope", 0, UP), False),
            (THREE, THREE, (0, 2), ("slope", 0, UP), True), (ZERO, THREE, (0, 2), ("slope", 0, UP), False),
            (THREE, ZERO, (0, 2), ("slope", 0, row(0)), False), (THREE, THREE, (), ("slope", 0, UP), False),
            (THREE, ZERO, (0, 2), ("end", UP), True), (THREE, THREE, (0, 2), ("end", UP), False),
            (THREE, ZERO, (1, 2), ("end", UP), False), (THREE, ZERO, (), ("end", UP), True),
            (THREE, ZERO, (), ("end", row(-1)), False), (ZERO, THREE, (), ("end", row("-1/9")), True),
            (ZERO, ZERO, (), ("end", UP), False), (ZERO, THREE, (1,), ("end", row(-10 ** 20)), True),
        ]
        for one, other, lot, paper, told in cases:
            self.assertIs(paper_holds(LINE, rates, one, other, lot, paper), told, (one, other, lot, paper))
            self.assertIs(own_holds(LINE, rates, one, other, lot, paper), told, (one, other, lot, paper))

    def test_crossing_one_wall_and_leaving_another(self):
        corner, both = row(0, 0), ((0, -1), (1, -1))
        rates = [row(2, -1), row(-1, 2), row(0, -1), row(1, 0)]
        for lot, told in (((0, 1, 2), True), ((0, 1, 2, 3), False), ((0, 3), False), ((0,), True)):
            self.assertIs(paper_holds(SQUARE, rates, corner, row(1, 1), lot, ("ahead", 0, both)), told)
            self.assertIs(paper_holds(SQUARE, rates, corner, row(1, 1), lot, ("ahead", 0, both[1:])), 1 not in lot)
            self.assertIs(paper_holds(SQUARE, rates, row(0, 1), row(1, 1), lot, ("ahead", 0, both)), False)

    def test_any_papers_and_lots(self):
        rng = rng_for(4)
        told = []
        for _ in range(500):
            levels, turns = rng.randint(1, 3), rng.randint(1, 4)
            room, rates = random_room(rng, levels, 9), random_rates(rng, turns, levels, 2, 0.6)
            one, other = random_place(rng, room, 0.8), random_place(rng, room, 0.8)
            if rng.random() < 0.2:
                other = one
            lots = [some_lot(rng, turns) for _ in range(3)] + [()]
            for lot in lots:
                for _ in range(6):
                    paper = some_paper(rng, room, turns, one, other)
                    holds = paper_holds(room, rates, one, other, lot, paper)
                    self.assertIs(holds, own_holds(room, rates, one, other, lot, paper), (rates, one, other, lot, paper))
                    told.append((paper[0], holds))
                paper = barred(room, rates, one, other, lot)
                self.assertEqual(barred(room, tuple(rates), one, other, lot), paper)
                if paper is None:
                    self.assertEqual(own_lot(room, rates, one, other, lot), lot)
                else:
                    self.assertTrue(own_paper_form(paper, turns, levels))
                    self.assertIs(own_holds(room, rates, one, other, lot, paper), True)
                    self.assertIs(paper_holds(room, tuple(rates), one, other, lot, paper), True)
                    self.assertNotEqual(own_lot(room, rates, one, other, lot), lot)
                told.append(("barred", None if paper is None else paper[0]))
        for word in ("ahead", "behind", "slope", "end"):
            self.assertGreater(told.count((word, True)), 30, word)
            self.assertGreater(told.count((word, False)), 30, word)
            self.assertGreater(told.count(("barred", word)), 8, word)
        self.assertGreater(told.count(("barred", None)), 30)

    def test_slopes_of_twenty_figures(self):
        great = 10 ** 20 - 3
        for n, told in ((1, True), (-1, False)):
            slope = ((n * great, great - 1),)
            self.assertIs(paper_holds(LINE, [UP, DOWN], THREE, ZERO, (0,), ("slope", 0, slope)), told)
            self.assertIs(paper_holds(LINE, [UP, DOWN], THREE, ZERO, (0,), ("end", slope)), told)

    def test_barred_with_great_numbers(self):
        rng = rng_for(5)
        for _ in range(20):
            room, rates = random_room(rng, 4, 999999), random_rates(rng, 8, 4, 999999, 0)
            one, other = random_place(rng, room), random_place(rng, room)
            lot = tuple(range(8))
            while lot is not None:
                paper = barred(room, rates, one, other, lot)
                if paper is not None:
                    self.assertIs(own_holds(room, rates, one, other, lot, paper), True)
                lot = None if paper is None or paper[0] == "end" else tuple(k for k in lot if k != paper[1])


if __name__ == "__main__":
    unittest.main()
