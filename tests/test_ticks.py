import unittest
from itertools import product as all_of

from ledlevels.errors import TooMany
from ledlevels.ticks import (
    by_ticks, is_whole_room, is_whole_row, judge_ticks, led_tick, longest, staying, whole_places)
from tests.helping import ANY_VALUES, GREAT, are_pairs, changed, is_pair, pair, real, rng_for, row

HALL = (((0, 1), (4, 1)), ((0, 1), (7, 2)))
WELL, ZERO, ONE, TWO = (((0, 1), (2, 1)),), ((0, 1),), ((1, 1),), ((2, 1),)
BACK = ((-2, 1),)


def whole_room(*ends):
    return tuple((pair(low), pair(high)) for low, high in ends)


def own_places(room):
    """All whole places, ascending."""
    return [row(*numbers) for numbers in all_of(*[range(low[0], high[0] + 1) for low, high in room])]


def own_tick(room, rates, place, k):
    told = [real(x) + real(y) for x, y in zip(place, rates[k])]
    return row(*told) if all(real(low) <= x <= real(high) for (low, high), x in zip(room, told)) else None


def own_come_to(room, rates, place):
    """The set of the places that can be come to."""
    found, ahead = {place}, [place]
    while ahead:
        one = ahead.pop()
        for k in range(len(rates)):
            z = own_tick(room, rates, one, k)
            if z is not None and z not in found:
                found.add(z)
                ahead.append(z)
    return found


def own_longest(room, rates, places):
    """The greatest number of ticks for each place; those from which one can stay for ever have none."""
    ends = {z: [own_tick(room, rates, z, k) for k in range(len(rates))] for z in places}
    last, n, told = set(places), 0, {}
    while last:
        # Those from which n ticks can be done, but no more.
        more = {z for z in last if any(end in last for end in ends[z])}
        told.update({z: n for z in last - more})
        if more == last:
            break
        last, n = more, n + 1
    return told


def own_judge(room, rates, place, value):
    """What judge_ticks has to tell, by the words of the document."""
    if type(value) is not tuple or not value or type(value[0]) is not str:
        return ("form",)
    if value[0] == "ring":
        if len(value) != 3 or not all(type(part) is tuple for part in value[1:]) or not value[2]:
            return ("form",)
        if not all(type(k) is int and 0 <= k < len(rates) for part in value[1:] for k in part):
            return ("form",)
        begin = None
        for n, k in enumerate(value[1] + value[2]):
            begin = place if n == len(value[1]) else begin
            place = own_tick(room, rates, place, k)
            if place is None:
                return ("leaves", n)
        return None if place == begin else ("open",)
    if value[0] != "ranks" or len(value) != 2 or type(value[1]) is not dict:
        return ("form",)
    for key, rank in value[1].items():
        if not are_pairs(key, len(room)) or any(x[1] != 1 for x in key) or type(rank) is not int or rank < 0:
            return ("form",)
        if any(x[0] < low[0] or x[0] > high[0] for x, (low, high) in zip(key, room)):
            return ("form",)
    come = own_come_to(room, rates, place)
    for z in own_places(room):
        if z in come and z not in value[1]:
            return ("lacks", z)
    for z in own_places(room):
        if z in value[1] and z not in come:
            return ("spare", z)
    for z in own_places(room):
        if z in value[1]:
            for k in range(len(rates)):
                end = own_tick(room, rates, z, k)
                if end is not None and value[1][end] >= value[1][z]:
                    return ("rank", z, k)
    return None


def random_well(rng, most=30):
    """A whole room of one to three levels of not too many places."""
    levels = rng.randint(1, 3)
    wide = {1: most, 2: 5, 3: 3}[levels]
    lows = [rng.randint(-9, 9) for _ in range(levels)]
    return whole_room(*[(low, low + rng.randint(1, wide)) for low in lows])


def whole_rates(rng, levels, many, most=3, up=False):
    """Whole rates; those that go up alone lead to no ring."""
    return [row(*[rng.randint(0 if up else -most,
                              most) for _ in range(levels - 1)] + [rng.randint(1 if up else -most, most)])
            for _ in range(many)]


class Whole(unittest.TestCase):
    def test_examples(self):
        self.assertEqual(
            [is_whole_room(WELL), is_whole_room(HALL), whole_places(WELL) == [ZERO, ONE, TWO],
             led_tick(WELL, [ONE], TWO, 0)],
            [True, False, True, None])

    def test_rooms_and_rows(self):
        one, two, half = (1, 1), (2, 1), (1, 2)
        for value, room, told in [
                (((one, two),), True, False), (((half, two),), False, False), (((one, (3, 2)),), False, False),
                (((one, two),) * 4, True, False), (((one, two),) * 5, False, False), (((two, one),), False, False),
                (((one, one),), False, False), ([(one, two)], False, False), (([one, two],), False, False),
                ((), False, False), (one, False, False), ((one,), False, True), ((one, two), False, True),
                ((one, half), False, False), ((half,), False, False), ((one,) * 4, False, True),
                ((one,) * 5, False, False),
                ([one], False, False), (((True, 1),), False, False), (((1, True),), False, False),
                (((2, 2),), False, False),
                (((0, 1), (GREAT, 1)), False, True), ((((-GREAT, 1), (GREAT, 1)),), True, False), (None, False, False),
                ((None,), False, False), ({}, False, False), ("a", False, False), ((((True, 1), two),), False, False)]:
            self.assertIs(is_whole_room(value), room, value)
            self.assertIs(is_whole_row(value), told, value)

    def test_any_values(self):
        rng = rng_for(1)
        rooms, rows = [], []
        for _ in range(200):
            room = random_well(rng)
            place = rng.choice(own_places(room))
            self.assertIs(is_whole_room(room), True)
            self.assertIs(is_whole_row(place), True)
            for value in [changed(room,
                                  rng) for _ in range(10)] + [changed(place, rng) for _ in range(10)] + ANY_VALUES:
                is_row = type(value) is tuple and 1 <= len(value) <= 4 and are_pairs(value, len(value))
                rows.append(is_row and all(x[1] == 1 for x in value))
                self.assertIs(is_whole_row(value), rows[-1], value)
                rooms.append(type(value) is tuple and 1 <= len(value) <= 4 and all(
                    type(level) is tuple and len(level) == 2 and is_pair(level[0]) and is_pair(level[1])
                    and level[0][1] == level[1][1] == 1 and level[0][0] < level[1][0] for level in value))
                self.assertIs(is_whole_room(value), rooms[-1], value)
        self.assertGreater(rooms.count(True), 100)
        self.assertGreater(rows.count(True), 100)

    def test_places(self):
        rng = rng_for(2)
        for _ in range(60):
            room = random_well(rng)
            told = whole_places(room)
            self.assertEqual(told, own_places(room))
            self.assertIs(type(told), list)
            told.append(None)
            self.assertEqual(whole_places(room), own_places(room))
        self.assertEqual(whole_places(whole_room((-1, 1), (10, 11))),
                         [row(-1, 10), row(-1, 11), row(0, 10), row(0, 11), row(1, 10), row(1, 11)])

    def test_led_tick(self):
        rng = rng_for(3)
        for _ in range(60):
            room = random_well(rng)
            rates = whole_rates(rng, len(room), rng.randint(1, 8))
            for place in own_places(room)[:40]:
                for k in range(len(rates)):
                    self.assertEqual(led_tick(room, rates, place, k), own_tick(room, rates, place, k))
                    self.assertEqual(led_tick(room, tuple(rates), place, k), own_tick(room, rates, place, k))
        self.assertEqual(led_tick(WELL, [ONE], ONE, 0), TWO)
        self.assertEqual(led_tick(WELL, [row(0)], TWO, 0), TWO)
        self.assertEqual(led_tick(whole_room((0, 10 ** 6), (0, 10 ** 6)), [row(1, 10 ** 6)], row(5, 0), 0),
                         row(6, 10 ** 6))


class ByTicks(unittest.TestCase):
    def right(self, room, rates, place):
        value = by_ticks(room, rates, place)
        self.assertIsNone(own_judge(room, rates, place, value), (room, rates, place, value))
        self.assertIsNone(judge_ticks(room, rates, place, value))
        self.assertEqual(by_ticks(room, tuple(rates), place), value)
        self.assertIsNone(judge_ticks(room, tuple(rates), place, value))
        return value

    def test_examples(self):
        self.assertEqual(
            [judge_ticks(WELL, [ONE], ZERO, ("ranks", {ZERO: 5, ONE: 2, TWO: 0})),
             judge_ticks(WELL, [ONE], ZERO, ("ranks", {ZERO: 1, ONE: 1, TWO: 0}))],
            [None, ("rank", ((0, 1),), 0)])
        self.assertEqual(
            [judge_ticks(WELL, [ONE], ZERO, ("ranks", {ZERO: 1, ONE: 0})),
             judge_ticks(WELL, [ONE], ONE, ("ranks", {ZERO: 2, ONE: 1, TWO: 0}))],
            [("lacks", ((2, 1),)), ("spare", ((0, 1),))])
        self.assertEqual(
            [longest(WELL, [ONE], ZERO), longest(WELL, [ONE, BACK], ONE),
             staying(WELL, [ONE, BACK]) == [ZERO, ONE, TWO],
             staying(WELL, [ONE])],
            [2, None, True, []])
        self.assertEqual(
            [judge_ticks(WELL, [ONE, BACK], ONE, ("ring", (0,), (1, 0, 0))),
             judge_ticks(WELL, [ONE, BACK], ONE, ("ring", (0, 0), (1,))), by_ticks(WELL, [ONE], ZERO)[0]],
            [None, ("leaves", 1), "ranks"])

    def test_both_answers_longest_and_staying(self):
        rng = rng_for(4)
        words = []
        for _ in range(150):
            room = random_well(rng, 12)
            rates = whole_rates(rng, len(room), rng.randint(1, 4), rng.choice([1, 3, 6]), rng.random() < 0.4)
            places = own_places(room)
            told = own_longest(room, rates, places)
            stays = staying(room, rates)
            self.assertEqual(stays, [z for z in places if z not in told])
            self.assertIs(type(stays), list)
            self.assertEqual(staying(room, tuple(rates)), stays)
            for place in places if len(places) < 15 else rng.sample(places, 10):
                value = self.right(room, rates, place)
                words.append(value[0])
                self.assertIs(value[0] == "ranks", place in told)
                self.assertEqual(longest(room, rates, place), told.get(place))
                self.assertEqual(longest(room, tuple(rates), place), told.get(place))
                if value[0] == "ranks":
                    self.assertEqual(set(value[1]), own_come_to(room, rates, place))
        self.assertGreater(min(words.count("ring"), words.count("ranks")), 150)

    def test_rings_of_one_tick_and_of_many(self):
        self.assertEqual(self.right(WELL, [row(0)], ONE), ("ring", (), (0,)))
        self.assertEqual(self.right(WELL, [row(5)], ONE), ("ranks", {ONE: 0}))
        self.assertEqual(self.right(WELL, [ONE], ZERO)[0], "ranks")
        room = whole_room((0, 399))
        word, steps, ring = self.right(room, [row(1), row(-399)], row(0))
        self.assertEqual((word, len(steps) + len(ring)), ("ring", 400))
        self.assertEqual(self.right(room, [row(1), row(-399)], row(7))[0], "ring")

    def test_four_hundred_places_and_more(self):
        room = whole_room((0, 19), (-3, 16))
        self.assertEqual(len(whole_places(room)), 400)
        rates = [row(1, 0), row(0, 1), row(-1, 1), row(-1, 2), row(0, 3), row(2, 0), row(3, -3), row(5, 5)]
        self.assertEqual(self.right(room, rates[:2], row(0, -3))[0], "ranks")
        self.assertEqual(longest(room, rates[:2], row(0, -3)), 38)
        self.assertEqual(self.right(room, rates, row(0, -3))[0], "ring")
        self.assertEqual(staying(room, rates[:2]), [])
        self.assertEqual(longest(whole_room((0, 399)), [row(1), row(2)], row(0)), 399)
        self.assertEqual(len(staying(whole_room((0, 399)), [row(1), row(-1)])), 400)
        self.assertEqual(self.right(whole_room((0, 399)), [row(1)] * 8, row(0))[1][row(0)], 399)
        cube = whole_room((0, 7), (0, 6), (0, 6))
        self.assertEqual(len(whole_places(cube)), 392)
        self.assertEqual(longest(cube, [row(1, 0, 0), row(0, 1, 0), row(-7, -6, 1)], row(0, 0, 0)), 13 * 7 + 6)
        for great in (whole_room((0, 400)), whole_room((0, 19), (0, 20)), whole_room((-999999, 999999), (0, 1), (0, 1)),
                      whole_room((0, 7), (0, 7), (0, 7))):
            for call in (lambda: whole_places(great), lambda: by_ticks(great, rates, row(0)),
                         lambda: judge_ticks(great, rates, row(0), None), lambda: longest(great, rates, row(0)),
                         lambda: judge_ticks(great, rates, row(0), ("ring", (), (0,))), lambda: staying(great, rates)):
                with self.assertRaises(TooMany):
                    call()
            self.assertIs(is_whole_room(great), True)

    def test_dicts_are_new(self):
        rates = [ONE]
        by_ticks(WELL, rates, ZERO)[1].clear()
        staying(WELL, rates).append(None)
        self.assertEqual(by_ticks(WELL, rates, ZERO), ("ranks", {ZERO: 2, ONE: 1, TWO: 0}))
        self.assertEqual((rates, staying(WELL, rates)), ([ONE], []))


class JudgeTicks(unittest.TestCase):
    def test_each_fault(self):
        rates = [ONE, BACK]
        fine = {ZERO: 9, ONE: 4, TWO: 0}
        cases = [
            (("ring", (), (0, 0, 1)), ZERO, None), (("ring", (0,), (0, 1, 0)), ZERO, None),
            (("ring", (0, 0, 1), (0, 0, 1)), ZERO, None),
            (("ring", (), (0,)), ZERO, ("open",)), (("ring", (0,), (0,)), ZERO, ("open",)),
            (("ring", (0, 0), (1, 0)), ZERO, ("open",)), (("ring", (), (1,)), ZERO, ("leaves", 0)),
            (("ring", (0,), (1,)), ZERO, ("leaves", 1)), (("ring", (0, 0), (1, 1)), ZERO, ("leaves", 3)),
            (("ring", (0, 0, 0), (1, 1)), ZERO, ("leaves", 2)), (("ring", (0, 0), ()), ZERO, ("form",)),
            (("ring", (), (2,)), ZERO, ("form",)), (("ring", (-1,), (0,)), ZERO, ("form",)),
            (("ring", (False,), (0, 1, 0)), ZERO, ("form",)), (("ring", (0,), (0, True, 0)), ZERO, ("form",)),
            (("ring", [0], (0, 1, 0)), ZERO, ("form",)), (("ring", (0,), [0, 1, 0]), ZERO, ("form",)),
            (["ring", (), (0, 0, 1)], ZERO, ("form",)), (("ring", (0, 0, 1)), ZERO, ("form",)),
            (("ring", (), (0, 0, 1), ()), ZERO, ("form",)), (("rings", (), (0, 0, 1)), ZERO, ("form",)),
            (("ring", (), ((0, 0), 1)), ZERO, ("form",)), (("ring", (), (0, "1")), ZERO, ("form",)),
            (None, ZERO, ("form",)),
            (("ranks", {}), ZERO, ("lacks", ZERO)), (("ranks", fine), ZERO, ("rank", TWO, 1)),
            (("ranks", {ZERO: 1, ONE: 0, TWO: 5}), ONE, ("rank", ONE, 0)),
        ]
        for value, place, fault in cases:
            self.assertEqual(judge_ticks(WELL, rates, place, value), fault, value)
            self.assertEqual(own_judge(WELL, rates, place, value), fault, value)

    def test_faults_of_ranks(self):
        fine = {ZERO: 9, ONE: 4, TWO: 0}
        cases = [
            (fine, ZERO, None), ({TWO: 0, ONE: 4, ZERO: 9}, ZERO, None), ({ONE: 1, TWO: 0}, ONE, None),
            ({TWO: GREAT}, TWO, None),
            ({ZERO: 1, ONE: 0, TWO: 9}, ZERO, ("rank", ONE, 0)), ({ZERO: 4, ONE: 4, TWO: 0}, ZERO, ("rank", ZERO, 0)),
            ({ZERO: 0, ONE: 0, TWO: 0}, ZERO, ("rank", ZERO, 0)), ({ONE: 1, TWO: 0}, ZERO, ("lacks", ZERO)),
            ({TWO: 0}, ZERO, ("lacks", ZERO)), ({ZERO: 0}, ZERO, ("lacks", ONE)),
            ({ZERO: 0, ONE: 0}, ZERO, ("lacks", TWO)),
            ({}, TWO, ("lacks", TWO)), (fine, ONE, ("spare", ZERO)), (fine, TWO, ("spare", ZERO)),
            ({TWO: 0, ONE: 0}, TWO, ("spare", ONE)), ({ZERO: 0, TWO: 0}, ONE, ("lacks", ONE)),
            ({ZERO: 0, ONE: 0, TWO: 9}, ONE, ("spare", ZERO)),
            ({ZERO: 9, ONE: -1, TWO: 0}, ZERO, ("form",)), ({ZERO: 9, ONE: True, TWO: 0}, ZERO, ("form",)),
            ({ZERO: 9, ONE: 4, TWO: False}, ZERO, ("form",)), ({ZERO: 9, ONE: 4, TWO: None}, ZERO, ("form",)),
            ({ZERO: 9, ONE: (4, 1), TWO: 0}, ZERO, ("form",)), ({ZERO: 9, ONE: [4], TWO: 0}, ZERO, ("form",)),
            ({ZERO: 9, ONE: 4, TWO: 0, row(3): 0}, ZERO, ("form",)),
            ({ZERO: 9, ONE: 4, TWO: 0, row(-1): 0}, ZERO, ("form",)),
            ({ZERO: 9, ONE: 4, TWO: 0, row("1/2"): 0}, ZERO, ("form",)),
            ({ZERO: 9, ((True, 1),): 4, TWO: 0}, ZERO, ("form",)),
            ({ZERO: 9, ((1, True),): 4, TWO: 0}, ZERO, ("form",)),
            ({((False, 1),): 9, ONE: 4, TWO: 0}, ZERO, ("form",)),
            ({ZERO: 9, ONE: 4, TWO: 0, None: 0}, ZERO, ("form",)), ({ZERO: 9, ONE: 4, TWO: 0, "a": 0}, ZERO, ("form",)),
            ({ZERO: 9, ONE: 4, TWO: 0, (): 0}, ZERO, ("form",)), ({ZERO: 9, ONE: 4, TWO: 0, 1: 0}, ZERO, ("form",)),
            ({ZERO: 9, ONE: 4, TWO: 0, row(1, 1): 0}, ZERO, ("form",)),
            ({ZERO: 9, ONE: 4, TWO: 0, (1, 1): 0}, ZERO, ("form",)),
            ({ZERO: 9, ONE: 4, TWO: 0, True: 0}, ZERO, ("form",)), (list(fine.items()), ZERO, ("form",)),
            (tuple(fine.items()), ZERO, ("form",)),
        ]
        for ranks, place, fault in cases:
            self.assertEqual(judge_ticks(WELL, [ONE], place, ("ranks", ranks)), fault, ranks)
            self.assertEqual(own_judge(WELL, [ONE], place, ("ranks", ranks)), fault, ranks)
            self.assertEqual(judge_ticks(WELL, [ONE], place, ["ranks", ranks]), ("form",))
            self.assertEqual(judge_ticks(WELL, [ONE], place, ("ranks", ranks, ())), ("form",))

    def test_each_fault_ahead_of_the_next_one_for_all_places(self):
        self.assertEqual(judge_ticks(WELL, [ONE], ONE, ("ranks", {ZERO: 0, ONE: 0})), ("lacks", TWO))
        self.assertEqual(judge_ticks(WELL, [row(-1)], ONE, ("ranks", {ZERO: 0, ONE: 0, TWO: 0})), ("spare", TWO))
        self.assertEqual(judge_ticks(WELL, [row(9), row(-1), ONE], ONE, ("ranks", {ZERO: 5, ONE: 0, TWO: 9})),
                         ("rank", ONE, 1))

    def test_any_value(self):
        rng = rng_for(5)
        told = []
        for _ in range(150):
            room = random_well(rng, 5)
            rates = whole_rates(rng, len(room), rng.randint(1, 3), 2, rng.random() < 0.6)
            place = rng.choice(own_places(room))
            value = by_ticks(room, rates, place)
            others = [changed(value, rng) for _ in range(10)]
            for _ in range(10):
                ring = tuple(rng.randrange(len(rates)) for _ in range(rng.randint(1, 3)))
                others.append(("ring", tuple(rng.randrange(len(rates)) for _ in range(rng.randint(0, 2))), ring))
            if value[0] == "ranks":
                for _ in range(15):
                    ranks = dict(value[1])
                    key = rng.choice(list(ranks))
                    deed = rng.random()
                    if deed < 0.3:
                        ranks[key] += rng.choice([-1, 1, 2, 9])
                    elif deed < 0.5:
                        del ranks[key]
                    elif deed < 0.7:
                        ranks[rng.choice(own_places(room))] = 3
                    elif deed < 0.85:
                        ranks[rng.choice([None, 1, "a", (), key[0], key + key, (key,), (1, (2, (3,)))])] = 3
                    else:
                        ranks[key] = rng.choice(ANY_VALUES)
                    others.append(("ranks", ranks))
            for other in others + ANY_VALUES:
                fault = own_judge(room, rates, place, other)
                self.assertEqual(judge_ticks(room, rates, place, other), fault, other)
                told.append("right" if fault is None else fault[0])
        for fault in ("right", "form", "leaves", "open", "lacks", "spare", "rank"):
            self.assertGreater(told.count(fault), 20, fault)


if __name__ == "__main__":
    unittest.main()
