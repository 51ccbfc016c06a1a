import unittest

from ledlevels.through import place_lots, there_and_back, through
from tests.helping import pair, real, rng_for, row
from tests.walking import own_judge_way, own_lot, random_place, random_rates, random_room

LINE, UP, DOWN = (((0, 1), (4, 1)),), ((1, 1),), ((-1, 2),)
ZERO, THREE = ((0, 1),), ((3, 1),)
SQUARE, TILTS = (((0, 1), (4, 1)), ((0, 1), (4, 1))), [((2, 1), (-1, 1)), ((-1, 1), (2, 1))]
CORNER, INNER = ((0, 1), (0, 1)), ((1, 1), (1, 1))


def leads(room, rates, one, other):
    """Whether there is a way, by a search."""
    return own_lot(room, rates, one, other, tuple(range(len(rates)))) is not None


def some_places(rng, room, many):
    """Places, some of them twice."""
    places = [random_place(rng, room, rng.choice([0, 0.6, 1])) for _ in range(many)]
    for k in range(1, many):
        if rng.random() < 0.15:
            places[k] = places[k - 1]
    rng.shuffle(places)
    return places


class Through(unittest.TestCase):
    def test_examples(self):
        self.assertEqual(
            [there_and_back(LINE, [UP, DOWN], ZERO, THREE), there_and_back(LINE, [UP], ZERO, THREE),
             through(LINE, [UP], [ZERO, THREE, ZERO]), through(LINE, [UP, DOWN], [ZERO, THREE, ZERO])[0],
             through(LINE, [UP], [THREE])],
            [True, False, ("bars", 1), "ways", ("ways", [])])
        self.assertEqual(
            [place_lots(SQUARE, TILTS, [CORNER, INNER, ((2, 1), (2, 1)), CORNER]), place_lots(LINE, [UP], [ZERO, THREE])],
            [[(0, 3), (1,), (2,)], [(0,), (1,)]])

    def own_through(self, room, rates, places):
        for n in range(len(places) - 1):
            if not leads(room, rates, places[n], places[n + 1]):
                return n
        return None

    def right_through(self, room, rates, places):
        told = through(room, rates, places)
        n = self.own_through(room, rates, places)
        self.assertEqual(through(room, tuple(rates), tuple(places)), told)
        if n is not None:
            self.assertEqual(told, ("bars", n))
            return told
        self.assertEqual([type(told), told[0], type(told[1]), len(told[1])], [tuple, "ways", list, len(places) - 1])
        for one, other, plan in zip(places, places[1:], told[1]):
            self.assertIsNone(own_judge_way(room, rates, one, other, ("way", plan)))
        return told

    def test_through(self):
        rng = rng_for(1)
        told = []
        for _ in range(200):
            levels = rng.randint(1, 3)
            room, rates = random_room(rng, levels, 9), random_rates(rng, rng.randint(1, 3), levels, 9, 0.4)
            if rng.random() < 0.7:
                rates += [tuple(pair(-real(x)) for x in rate) for rate in rates]
            value = self.right_through(room, rates, some_places(rng, room, rng.randint(1, 5)))
            told.append(value[1] if value[0] == "bars" else "ways")
        for value in ("ways", 0, 1):
            self.assertGreater(told.count(value), 5, value)

    def test_the_least_number(self):
        places = [ZERO, ZERO, THREE, row(1), THREE, row(1)]
        self.assertEqual(through(LINE, [UP], places), ("bars", 2))
        self.assertEqual(through(LINE, [UP], places[:3])[0], "ways")
        self.assertEqual(through(LINE, [DOWN], places), ("bars", 1))
        self.assertEqual(through(LINE, [UP], [THREE, THREE]), ("ways", [()]))

    def test_there_and_back(self):
        rng = rng_for(2)
        told = []
        for _ in range(300):
            levels = rng.randint(1, 3)
            room, rates = random_room(rng, levels, 9), random_rates(rng, rng.randint(1, 3), levels, 9, 0.4)
            if rng.random() < 0.6:
                rates += [tuple(pair(-real(x)) for x in rate) for rate in rates]
            one, other = some_places(rng, room, 2)
            there, back = leads(room, rates, one, other), leads(room, rates, other, one)
            value = there_and_back(room, rates, one, other)
            self.assertIs(value, there and back)
            self.assertIs(there_and_back(room, tuple(rates), other, one), value)
            told.append((there, back))
        for one in (True, False):
            for other in (True, False):
                self.assertGreater(told.count((one, other)), 5)
        self.assertIs(there_and_back(LINE, [row(0)], THREE, THREE), True)

    def own_place_lots(self, room, rates, places):
        joined = [[leads(room, rates, one, other) and leads(room, rates, other, one) for other in places] for one in places]
        return sorted(set(tuple(k for k, is_one in enumerate(line) if is_one) for line in joined))

    def test_place_lots(self):
        rng = rng_for(3)
        sizes = []
        for _ in range(50):
            levels = rng.randint(1, 2)
            room, rates = random_room(rng, levels, 9), random_rates(rng, rng.randint(1, 3), levels, 9, 0.4)
            if rng.random() < 0.7:
                rates += [tuple(pair(-real(x)) for x in rate) for rate in rates]
            places = some_places(rng, room, rng.randint(0, 6))
            told = place_lots(room, rates, places)
            self.assertIs(type(told), list)
            self.assertEqual(told, self.own_place_lots(room, rates, places))
            self.assertEqual(sorted(k for lot in told for k in lot), list(range(len(places))))
            self.assertEqual(place_lots(room, tuple(rates), tuple(places)), told)
            sizes += [len(lot) for lot in told]
        self.assertGreater(len(set(sizes)), 3)
        self.assertGreater(sizes.count(1), 20)

    def test_no_place_and_a_place_twice(self):
        self.assertEqual(place_lots(LINE, [UP], []), [])
        self.assertEqual(place_lots(LINE, [UP], [ZERO]), [(0,)])
        self.assertEqual(place_lots(LINE, [UP], [ZERO, THREE, ZERO, THREE, ZERO]), [(0, 2, 4), (1, 3)])
        self.assertEqual(place_lots(LINE, [UP, DOWN], [ZERO, THREE, ZERO]), [(0, 1, 2)])

    def test_lists_are_new(self):
        places, rates = [ZERO, THREE], [UP, DOWN]
        through(LINE, rates, places)[1].append(None)
        place_lots(LINE, rates, places).append(None)
        self.assertEqual(len(through(LINE, rates, places)[1]), 1)
        self.assertEqual(place_lots(LINE, rates, places), [(0, 1)])
        through(LINE, rates, [ZERO])[1].append(None)
        self.assertEqual(through(LINE, rates, [ZERO]), ("ways", []))
        self.assertEqual((places, rates), ([ZERO, THREE], [UP, DOWN]))

    def test_eight_places_eight_rates_six_figures(self):
        rng = rng_for(4)
        for share in (0, 0.3):
            room, rates = random_room(rng, 4, 999999), random_rates(rng, 8, 4, 999999, 0)
            both = rates[:4] + [tuple(pair(-real(x)) for x in rate) for rate in rates[:4]]
            places = [random_place(rng, room, share) for _ in range(7)]
            places.append(places[2])
            for turns in (rates, both):
                told = place_lots(room, turns, places)
                self.assertEqual(sorted(k for lot in told for k in lot), list(range(8)))
                for lot in told:
                    for k in lot:
                        self.assertIs(there_and_back(room, turns, places[lot[0]], places[k]), True)
                self.assertEqual(sum(2 in lot and 7 in lot for lot in told), 1)
                value = through(room, turns, places)
                for n, plan in enumerate(value[1] if value[0] == "ways" else []):
                    self.assertIsNone(own_judge_way(room, turns, places[n], places[n + 1], ("way", plan)))
            if not share:
                self.assertEqual(place_lots(room, both, places), [tuple(range(8))])


if __name__ == "__main__":
    unittest.main()
