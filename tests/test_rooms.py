import unittest
from itertools import product as all_of

from ledlevels.rooms import (
    inside, is_place, is_room, least_slack, middle, most_in, slack, touched, wall_form)
from tests.helping import ANY_VALUES, are_pairs, changed, dot, is_pair, pair, random_row, real, rng_for, row
from tests.walking import random_room

HALL = (((0, 1), (4, 1)), ((0, 1), (7, 2)))


def own_is_room(value):
    if type(value) is not tuple or not 1 <= len(value) <= 4:
        return False
    return all(are_pairs(level, 2) and real(level[0]) < real(level[1]) for level in value)


def own_is_place(room, value):
    if not are_pairs(value, len(room)):
        return False
    return all(real(low) <= real(x) <= real(high) for (low, high), x in zip(room, value))


def spots(room):
    """Places of a room with each level at its low, at its high, or between."""
    return list(all_of(*[(low, pair((real(low) + real(high)) / 3 if real(low) < 0 < real(high) else
                                    real(low) + (real(high) - real(low)) / 3), high) for low, high in room]))


class Rooms(unittest.TestCase):
    def test_examples(self):
        self.assertEqual(
            [is_room(HALL), is_room((((1, 1), (1, 1)),)), is_room([((0, 1), (1, 1))]),
             is_place(HALL, ((4, 1), (1, 2))), is_place(HALL, ((5, 1), (1, 2)))],
            [True, False, False, True, False])
        self.assertEqual(
            [touched(HALL, ((0, 1), (7, 2))), touched(HALL, ((1, 1), (1, 1))), inside(HALL, ((1, 1), (1, 1))),
             middle(HALL)],
            [((0, -1), (1, 1)), (), True, ((2, 1), (7, 4))])
        self.assertEqual(
            [slack(HALL, ((0, 1), (1, 2)), (1, 1)), least_slack(HALL, ((3, 1), (3, 1))),
             most_in(HALL, ((1, 1), (-2, 1))), wall_form((2, 1), 2)],
            [(3, 1), (1, 2), (4, 1), False])

    def test_is_room(self):
        rng = rng_for(1)
        level = ((0, 1), (1, 1))
        for value in ANY_VALUES + [
                (level,), (level,) * 4, (level,) * 5, (), [level], ([(0, 1), (1, 1)],), (((0, 1), [1, 1]),),
                (((False, 1), (1, 1)),), (((0, True), (1, 1)),), (((0, 2), (1, 1)),), (((0, 1), (2, 2)),),
                (((1, 1), (0, 1)),), (((1, 1), (1, 1)),), (((-1, 2), (-1, 3)),), (level + ((2, 1),),), (((0, 1),),),
                level, (level, None), (((0, 1), (10 ** 199, 3)),)]:
            self.assertIs(is_room(value), own_is_room(value), value)
        for levels in range(1, 5):
            room = random_room(rng, levels, 9)
            self.assertIs(is_room(room), True)
            for _ in range(400):
                value = changed(room, rng)
                self.assertIs(is_room(value), own_is_room(value), value)

    def test_is_place(self):
        rng = rng_for(2)
        for levels in range(1, 5):
            room = random_room(rng, levels, 9)
            for place in spots(room):
                self.assertIs(is_place(room, place), True)
                for _ in range(30):
                    value = changed(place, rng)
                    self.assertIs(is_place(room, value), own_is_place(room, value), value)
            for value in ANY_VALUES + [list(room[0])]:
                self.assertIs(is_place(room, value), own_is_place(room, value), value)
        self.assertIs(is_place(HALL, ((True, 1), (1, 1))), False)
        self.assertIs(is_place(HALL, [(1, 1), (1, 1)]), False)
        self.assertIs(is_place(HALL, ((2, 2), (1, 1))), False)
        self.assertIs(is_place(HALL, row(0, "7/2")), True)
        self.assertIs(is_place(HALL, row(0, "18/5")), False)
        self.assertIs(is_place(HALL, row("-1/1000000", 1)), False)

    def test_wall_form(self):
        for many in range(1, 5):
            for value in ANY_VALUES + [
                    (i, s) for i in range(-2, 6) for s in range(-2, 3)] + [
                    [0, 1], (0, True), (False, 1), (True, -1), (0, 1, 1), (0, "1"), (0, None), ((0, 1), 1), (0, (1, 1))]:
                told = type(value) is tuple and len(value) == 2 and all(type(x) is int for x in value)
                told = told and 0 <= value[0] < many and value[1] in (-1, 1)
                self.assertIs(wall_form(value, many), told, (value, many))

    def test_corners_walls_and_inside_places(self):
        rng = rng_for(3)
        for levels in range(1, 5):
            for most in (3, 999999):
                room = random_room(rng, levels, most)
                for place in spots(room):
                    walls = [(i, s) for i in range(levels) for s in (-1, 1)]
                    gaps = [abs(real(place[i]) - real(room[i][0 if s < 0 else 1])) for i, s in walls]
                    self.assertEqual([slack(room, place, wall) for wall in walls], [pair(gap) for gap in gaps])
                    self.assertEqual(least_slack(room, place), pair(min(gaps)))
                    self.assertEqual(touched(room, place), tuple(w for w, gap in zip(walls, gaps) if gap == 0))
                    self.assertIs(inside(room, place), min(gaps) > 0)
                self.assertEqual(
                    middle(room), tuple(pair((real(low) + real(high)) / 2) for low, high in room))
                self.assertIs(inside(room, middle(room)), True)

    def test_rows_that_are_no_places(self):
        self.assertIs(inside(HALL, row(5, 1)), False)
        self.assertIs(inside(HALL, row(1, -1)), False)
        self.assertEqual(slack(HALL, row(5, 1), (0, 1)), (1, 1))
        self.assertEqual(slack(HALL, row(-5, 1), (0, -1)), (5, 1))
        great = (10 ** 29 + 1, 10 ** 29 + 2)
        self.assertEqual(slack(HALL, (great, great), (0, -1)), great)

    def test_most_in(self):
        rng = rng_for(4)
        for levels in range(1, 5):
            for _ in range(60):
                room = random_room(rng, levels, 99)
                slope = random_row(rng, levels, 99, noughts=0.3)
                told = most_in(room, slope)
                self.assertTrue(is_pair(told))
                self.assertEqual(real(told), max(dot(slope, place) for place in all_of(*room)))
        self.assertEqual(most_in(HALL, row(0, 0)), (0, 1))
        self.assertEqual(most_in(HALL, row(-1, -1)), (0, 1))
        self.assertEqual(most_in(((pair(-3), pair(-1)),), row(2)), (-2, 1))
        self.assertEqual(most_in(((pair(-3), pair(-1)),), row(-2)), (6, 1))


if __name__ == "__main__":
    unittest.main()
