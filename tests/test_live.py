import unittest
from fractions import Fraction

from ledlevels.errors import NoAnswer, NotInside
from ledlevels.held import held
from ledlevels.live import answers, first_time, played
from tests.helping import dot, is_pair, pair, random_row, real, rng_for, row
from tests.test_held import random_mill
from tests.walking import own_gap, own_walls, random_place, random_room

UP, TWICE, DOWN = ((1, 1),), ((2, 1),), ((-1, 1),)
MILL, WILD = [(UP, TWICE), (DOWN,)], [(UP, DOWN), (UP,)]
ROOM = (((0, 1), (4, 1)),)


def own_answers(mill, y):
    """The turns all of whose corners have a product with y of at most 0."""
    return [k for k in range(len(mill)) if max(dot(corner, y) for corner in mill[k]) <= 0]


def own_first_time(room, mill, start):
    """The least slack over twice the greatest sum of sizes."""
    most = max(sum(abs(real(x)) for x in corner) for turn in mill for corner in turn)
    if most == 0:
        return Fraction(1)
    return min(own_gap(room, [real(x) for x in start], wall) for wall in own_walls(len(room))) / (2 * most)


def own_played(room, mill, start, winds):
    """The places behind the laps; or the number of the first lap that no turn answers."""
    first, place, out = own_first_time(room, mill, start), [real(x) for x in start], []
    for k, wind in enumerate(winds, 1):
        told = own_answers(mill, [pair(x - real(y)) for x, y in zip(place, start)])
        if not told:
            return k
        place = [x + real(y) * first / k for x, y in zip(place, mill[told[0]][wind[told[0]]])]
        out.append(tuple(pair(x) for x in place))
    return out


def random_winds(rng, mill, many):
    return [tuple(rng.randrange(len(turn)) for turn in mill) for _ in range(many)]


def held_mill(rng, levels, most=9, corners=3):
    """A mill of some more turns than levels that is held: each corner is near its turn's way."""
    ways = [[3 if i == k else 0 for i in range(levels)] for k in range(levels)] + [[-3] * levels]
    mill = []
    for way in ways:
        turn = []
        while len(turn) < rng.randint(1, corners):
            corner = tuple(pair(x + Fraction(rng.randint(-most, most), 10 * most)) for x in way)
            if corner not in turn:
                turn.append(corner)
        mill.append(tuple(turn))
    rng.shuffle(mill)
    return mill


class Answers(unittest.TestCase):
    def test_examples(self):
        self.assertEqual(
            [answers(MILL, UP), answers(MILL, DOWN), answers(MILL, ((0, 1),)), answers(WILD, UP)],
            [[1], [0], [0, 1], []])

    def test_against_products(self):
        rng = rng_for(1)
        many = []
        for _ in range(500):
            levels = rng.randint(1, 3)
            mill = random_mill(rng, levels, rng.randint(1, 4), 3, rng.choice([2, 999999]))
            y = random_row(rng, levels, rng.choice([1, 3, 10 ** 30]), noughts=0.3)
            told = answers(mill, y)
            self.assertEqual(told, own_answers(mill, y))
            self.assertIs(type(told), list)
            self.assertEqual(answers(tuple(mill), y), told)
            many.append(len(told))
        for number in (0, 1, 2, 3, 4):
            self.assertGreater(many.count(number), 10)

    def test_just_nought_and_a_little_more(self):
        mill = [(row(1, -1), row(-1, 0)), (row(1, "-999999/1000000"),), (row(0, 0),), (row(2, -2), row(0, "1/999999"))]
        self.assertEqual(answers(mill, row(1, 1)), [0, 2])
        self.assertEqual(answers(mill, row(0, 0)), [0, 1, 2, 3])
        self.assertEqual(answers(mill, row(1, 2)), [0, 1, 2])
        great = row(10 ** 29, 10 ** 29 + 1)
        self.assertEqual(answers([(row(1, -1),), (row(-1, 1),)], great), [0])

    def test_a_held_mill_has_one_for_each_row(self):
        rng = rng_for(2)
        for _ in range(60):
            mill = held_mill(rng, rng.randint(1, 3))
            self.assertEqual(held(mill)[0], "held")
            for _ in range(10):
                self.assertNotEqual(answers(mill, random_row(rng, len(mill[0][0]), 99)), [])


class FirstTime(unittest.TestCase):
    def test_examples(self):
        self.assertEqual(first_time(ROOM, MILL, ((2, 1),)), (1, 2))
        with self.assertRaises(NotInside) as caught:
            first_time(ROOM, MILL, ((0, 1),))
        self.assertEqual(caught.exception.number, 0)

    def test_against_sums(self):
        rng = rng_for(3)
        for _ in range(300):
            levels, most = rng.randint(1, 3), rng.choice([3, 999999])
            room = random_room(rng, levels, most)
            mill = random_mill(rng, levels, rng.randint(1, 4), 3, most, 0.5)
            start = random_place(rng, room, 0)
            told = first_time(room, mill, start)
            self.assertTrue(is_pair(told))
            self.assertEqual(real(told), own_first_time(room, mill, start))
            self.assertEqual(first_time(room, tuple(mill), start), told)

    def test_a_corner_that_is_not_the_first_counts(self):
        room = (((0, 1), (4, 1)), ((0, 1), (8, 1)))
        mill = [(row(0, 0), row(1, -2)), (row(0, 1), row("-5/2", "-1/2"), row(1, 1))]
        self.assertEqual(first_time(room, mill, row(1, 4)), (1, 6))
        self.assertEqual(first_time(room, mill, row("7/2", 1)), (1, 12))
        self.assertEqual(first_time(room, mill, row(2, "15/2")), (1, 12))

    def test_all_corners_nought(self):
        self.assertEqual(first_time(ROOM, [(row(0),), (row(0),)], row(1)), (1, 1))
        self.assertEqual(first_time(ROOM, [(row(0),), (row(0), row("1/999999"))], row(2)), (999999, 1))

    def test_not_inside(self):
        rng = rng_for(4)
        for mill in (MILL, [(row(0),)]):
            for place in (row(0), row(4), row(5), row(-1), row("-1/999999"), row("3999997/999999")):
                for call in (lambda: first_time(ROOM, mill, place), lambda: played(ROOM, mill, place, [])):
                    with self.assertRaises(NotInside) as caught:
                        call()
                    self.assertEqual(caught.exception.number, 0)
        for _ in range(50):
            room = random_room(rng, 3, 99)
            place = random_place(rng, room, 0.4)
            is_inside = all(real(low) < real(x) < real(high) for (low, high), x in zip(room, place))
            mill = held_mill(rng, 3)
            try:
                first_time(room, mill, place)
                self.assertTrue(is_inside)
            except NotInside as error:
                self.assertFalse(is_inside)
                self.assertEqual(error.number, 0)


class Played(unittest.TestCase):
    def test_examples(self):
        self.assertEqual(played(ROOM, MILL, ((2, 1),), [(1, 0), (0, 0), (1, 0)]), [((3, 1),), ((11, 4),), ((31, 12),)])
        with self.assertRaises(NoAnswer) as caught:
            played(ROOM, WILD, ((2, 1),), [(0, 0), (0, 0)])
        self.assertEqual(caught.exception.lap, 2)

    def test_no_wind_and_one(self):
        self.assertEqual(played(ROOM, MILL, row(2), []), [])
        self.assertEqual(played(ROOM, WILD, row(2), []), [])
        self.assertEqual(played(ROOM, MILL, row(2), [(0, 0)]), [row("5/2")])
        self.assertEqual(played(ROOM, WILD, row(2), [(0, 0)]), [row(3)])

    def test_against_laps(self):
        rng = rng_for(5)
        stopped = 0
        for _ in range(150):
            levels, most = rng.randint(1, 3), rng.choice([3, 99, 999999])
            room = random_room(rng, levels, most)
            mill = rng.choice([held_mill(rng, levels, most), random_mill(rng, levels, rng.randint(2, 4), 3, most)])
            start, winds = random_place(rng, room, 0), random_winds(rng, mill, rng.randint(0, 12))
            wanted = own_played(room, mill, start, winds)
            if isinstance(wanted, int):
                stopped += wanted > 2
                with self.assertRaises(NoAnswer) as caught:
                    played(room, mill, start, winds)
                self.assertEqual(caught.exception.lap, wanted)
                self.assertEqual(played(room, mill, start, winds[:wanted - 1]),
                                 own_played(room, mill, start, winds[:wanted - 1]))
            else:
                told = played(room, mill, start, winds)
                self.assertEqual(told, wanted)
                self.assertIs(type(told), list)
                self.assertEqual(played(room, tuple(mill), start, tuple(winds)), told)
        self.assertGreater(stopped, 10)

    def test_sixty_winds_stay_inside(self):
        rng = rng_for(6)
        for k in range(12):
            levels = 1 + k % 3
            room = random_room(rng, levels, 999999)
            mill = held_mill(rng, levels, 99999)
            self.assertEqual(held(mill)[0], "held")
            start, winds = random_place(rng, room, 0), random_winds(rng, mill, 60)
            told = played(room, mill, start, winds)
            self.assertEqual(len(told), 60)
            self.assertEqual(told, own_played(room, mill, start, winds))
            for place in told:
                gaps = [own_gap(room, [real(x) for x in place], wall) for wall in own_walls(levels)]
                self.assertGreater(min(gaps), 0)

    def test_the_wind_that_is_always_the_worst(self):
        rng = rng_for(7)
        for _ in range(8):
            room, mill = (((0, 1), (1, 1)), ((0, 1), (1, 1))), held_mill(rng, 2)
            start, winds = row("1/2", "1/3"), []
            for _ in range(25):
                place = played(room, mill, start, winds)[-1] if winds else start
                y = [pair(real(a) - real(b)) for a, b in zip(place, start)]
                winds.append(tuple(max(range(len(turn)), key=lambda k: dot(turn[k], y)) for turn in mill))
            for place in played(room, mill, start, winds):
                self.assertTrue(all(0 < real(x) < 1 for x in place))

    def test_no_lap_is_looked_for_behind_the_last_wind(self):
        mill = [(row(1),)]
        self.assertEqual(played(ROOM, mill, row(2), [(0,)]), [row(3)])
        with self.assertRaises(NoAnswer) as caught:
            played(ROOM, mill, row(2), [(0,), (0,)])
        self.assertEqual(caught.exception.lap, 2)

    def test_what_is_passed_stays(self):
        mill, winds = [turn for turn in MILL], [(1, 0), (0, 0)]
        played(ROOM, mill, row(2), winds).append(None)
        answers(mill, UP).append(None)
        self.assertEqual((mill, winds), (MILL, [(1, 0), (0, 0)]))
        self.assertEqual(len(played(ROOM, mill, row(2), winds)), 2)


if __name__ == "__main__":
    unittest.main()
