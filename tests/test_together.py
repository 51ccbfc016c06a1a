import unittest
from fractions import Fraction
from itertools import product as all_of

from ledlevels.errors import TooMany
from ledlevels.together import common_cap, judge_together, let_rows, together
from tests.helping import (
    ANY_VALUES, all_basic, are_pairs, changed, dot, is_pair, pair, random_pair, random_row, real, rng_for, row, shifted)
from tests.test_costs import mixing_rates
from tests.walking import random_rates

UP, DOWN = ((1, 1),), ((-1, 1),)
TWO, POWERS = [[UP, DOWN], [UP, DOWN]], [[(2, 1), (1, 1)], [(2, 1), (1, 1)]]


def own_let(powers, cap):
    """All let rows, ascending."""
    return [turns for turns in all_of(*[range(len(own)) for own in powers])
            if sum(real(own[k]) for own, k in zip(powers, turns)) <= real(cap)]


def beside(several, turns):
    """The rates of a row's turns, one behind the other."""
    return tuple(x for rates, k in zip(several, turns) for x in rates[k])


def own_mixes(several, rows):
    """Whether rows of turns mix, by a search."""
    columns = [beside(several, turns) + ((1, 1),) for turns in rows]
    return bool(columns) and all_basic(columns, row(*[0] * (len(columns[0]) - 1) + [1])) != []


def own_judge(several, powers, cap, value):
    """What judge_together has to tell, by the words of the document."""
    if type(value) is not tuple or len(value) != 2 or type(value[0]) is not str or type(value[1]) is not tuple:
        return ("form",)
    word, told = value
    if word == "climbs":
        if len(told) != len(several) or not all(are_pairs(slope, len(rates[0])) for slope, rates in zip(told, several)):
            return ("form",)
        for turns in own_let(powers, cap):
            if sum(dot(slope, rates[k]) for slope, rates, k in zip(told, several, turns)) <= 0:
                return ("slope", turns)
        return None
    if word != "mixes" or not told:
        return ("form",)
    for both in told:
        if type(both) is not tuple or len(both) != 2 or not is_pair(both[1]):
            return ("form",)
        if type(both[0]) is not tuple or len(both[0]) != len(several):
            return ("form",)
        if not all(type(k) is int and 0 <= k < len(rates) for k, rates in zip(both[0], several)):
            return ("form",)
    rows = [turns for turns, _ in told]
    if rows != sorted(set(rows)):
        return ("form",)
    for turns in rows:
        if turns not in own_let(powers, cap):
            return ("row", turns)
    shares = [real(share) for _, share in told]
    if min(shares) <= 0 or sum(shares) != 1:
        return ("shares",)
    for i, rates in enumerate(several):
        for level in range(len(rates[0])):
            if sum(share * real(rates[turns[i]][level]) for turns, share in zip(rows, shares)) != 0:
                return ("level", i, level)
    return None


def random_lists(rng, lists, turns, levels, most, mix=0.7):
    """Lists of rates, often such that each of them mixes, and powers for them."""
    several = []
    for _ in range(lists):
        many, wide = rng.randint(2, turns), rng.randint(1, levels)
        rates = mixing_rates(rng, wide, many, most) if rng.random() < mix else random_rates(rng, many, wide, most)
        rng.shuffle(rates)
        several.append(rates)
    return several, [[random_pair(rng, rng.choice([2, 9])) for _ in rates] for rates in several]


def some_cap(rng, powers):
    """A cap at which some rows, none or all are let."""
    sums = sorted(sum(real(own[k]) for own,
                      k in zip(powers, turns)) for turns in all_of(*[range(len(p)) for p in powers]))
    return pair(rng.choice([rng.choice(sums), sums[-1], sums[0] - 1, rng.choice(sums) + Fraction(1, 99)]))


class LetRows(unittest.TestCase):
    def test_examples(self):
        self.assertEqual(
            [let_rows(POWERS, (3, 1)), let_rows(POWERS, (1, 1)), common_cap(TWO, POWERS)],
            [[(0, 1), (1, 0), (1, 1)], [], (3, 1)])

    def test_against_a_search(self):
        rng = rng_for(1)
        for _ in range(200):
            powers = [[random_pair(rng, rng.choice([2, 999999])) for _ in range(rng.randint(1, 6))]
                      for _ in range(rng.randint(1, 3))]
            cap = some_cap(rng, powers)
            wanted = own_let(powers, cap)
            if len(wanted) <= 200:
                told = let_rows(powers, cap)
                self.assertEqual(told, wanted)
                self.assertIs(type(told), list)
                self.assertEqual(let_rows(tuple(tuple(own) for own in powers), cap), wanted)
                told.append(None)
                self.assertEqual(let_rows(powers, cap), wanted)

    def test_two_hundred_and_more(self):
        powers = [[pair(k) for k in range(6)] for _ in range(3)]
        by_cap = {cap: len(own_let(powers, pair(cap))) for cap in range(-1, 16)}
        self.assertEqual((by_cap[-1], by_cap[15], by_cap[12]), (0, 216, 206))
        for cap, many in by_cap.items():
            if many <= 200:
                self.assertEqual(len(let_rows(powers, pair(cap))), many)
            else:
                with self.assertRaises(TooMany):
                    let_rows(powers, pair(cap))
        flat = [[(0, 1)] * 5, [(0, 1)] * 5, [(0, 1)] * 8]
        self.assertEqual(len(let_rows(flat, (0, 1))), 200)
        self.assertEqual(let_rows(flat, (-1, 9)), [])
        flat[0] = flat[0] + [(1, 1)]
        self.assertEqual(len(let_rows(flat, (0, 1))), 200)
        with self.assertRaises(TooMany):
            let_rows(flat, (1, 1))
        one_more = [[(0, 1)] * 3, [(0, 1)] * 67]
        with self.assertRaises(TooMany):
            let_rows(one_more, (0, 1))


class Together(unittest.TestCase):
    def right(self, several, powers, cap):
        value = together(several, powers, cap)
        self.assertIsNone(own_judge(several, powers, cap, value), (several, powers, cap, value))
        self.assertIsNone(judge_together(several, powers, cap, value))
        as_tuples = tuple(tuple(rates) for rates in several), tuple(tuple(own) for own in powers)
        self.assertEqual(together(*as_tuples, cap), value)
        self.assertIsNone(judge_together(*as_tuples, cap, value))
        return value

    def test_examples(self):
        self.assertEqual(
            [together(TWO, POWERS, (3, 1)), together(TWO, POWERS, (2, 1))[0]],
            [("mixes", (((0, 1), (1, 2)), ((1, 0), (1, 2)))), "climbs"])
        self.assertEqual(
            [judge_together(TWO, POWERS, (2, 1), ("mixes", (((0, 1), (1, 2)), ((1, 0), (1, 2))))),
             judge_together(TWO, POWERS, (2, 1), ("climbs", (DOWN, DOWN))),
             judge_together(TWO, POWERS, (3, 1), ("climbs", (UP, UP)))],
            [("row", (0, 1)), None, ("slope", (0, 1))])

    def test_both_answers(self):
        rng = rng_for(2)
        words = []
        for _ in range(200):
            several, powers = random_lists(rng, rng.randint(1, 3), 3, 2, rng.choice([1, 3, 999]))
            cap = some_cap(rng, powers)
            value = self.right(several, powers, cap)
            words.append(value[0])
            rows = own_let(powers, cap)
            if len(rows) <= 12:
                self.assertIs(value[0] == "mixes", own_mixes(several, rows))
        self.assertGreater(min(words.count("mixes"), words.count("climbs")), 40)

    def test_no_let_row(self):
        word, slopes = self.right([[UP, DOWN], [row(1, 2), row(-1, -2)]], POWERS, (1, 1))
        self.assertEqual((word, [len(slope) for slope in slopes]), ("climbs", [1, 2]))
        self.assertEqual(judge_together(TWO, POWERS, (1, 1), ("climbs", (row(-7), row(0)))), None)
        self.assertEqual(self.right([[UP], [row(0, 0)]], [[(1, 1)], [(1, 1)]], (1, 1))[0], "climbs")
        self.assertEqual(self.right([[UP], [row(0, 0)]], [[(1, 1)], [(1, 1)]], (2, 1))[0], "climbs")
        self.assertEqual(judge_together(TWO, POWERS, (1, 1), ("mixes", (((1, 1), (1, 1)),))), ("row", (1, 1)))

    def test_one_list_and_three_of_unlike_levels(self):
        self.assertEqual(self.right([[UP, DOWN]], POWERS[:1], (2, 1)), ("mixes", (((0,), (1, 2)), ((1,), (1, 2)))))
        self.assertEqual(self.right([[UP, DOWN]], POWERS[:1], (1, 1))[0], "climbs")
        several = [[UP, DOWN], [row(1, 0, 1), row(-1, 0, -1)], [row(0, 1), row(0, -3), row(0, 0)]]
        powers = [[(1, 1), (1, 1)], [(2, 1), (5, 1)], [(1, 1), (1, 2), (9, 1)]]
        self.assertEqual(self.right(several, powers, (99, 1))[0], "mixes")
        self.assertEqual(self.right(several, powers, (13, 2))[0], "climbs")
        self.assertEqual(self.right(several, powers, (7, 1))[0], "mixes")
        self.assertEqual(common_cap(several, powers), (7, 1))
        self.assertEqual(self.right([[row(0, 0)]], [[(3, 1)]], (3, 1)), ("mixes", (((0,), (1, 1)),)))

    def test_too_many(self):
        several, powers = [[UP] * 6] * 3, [[(0, 1)] * 6] * 3
        for call in (lambda: together(several, powers, (0, 1)), lambda: common_cap(several, powers),
                     lambda: judge_together(several, powers, (0, 1), None),
                     lambda: judge_together(several, powers, (0, 1), ("climbs", (UP, UP, UP))),
                     lambda: judge_together(several, powers, (0, 1), ("mixes", (((0, 0, 0), (1, 1)),)))):
            with self.assertRaises(TooMany):
                call()
        self.assertEqual(self.right(several, powers, (-1, 1))[0], "climbs")
        powers = [[pair(k) for k in range(6)] for _ in range(3)]
        self.assertEqual(self.right(several, powers, (11, 1))[0], "climbs")

    def test_the_greatest_lists(self):
        rng = rng_for(3)
        words = []
        for k in range(4):
            several = [mixing_rates(rng, 4, many, 999) for many in (6, 6, 5)]
            powers = [[random_pair(rng, 999999) for _ in rates] for rates in several]
            cap = common_cap(several, powers)
            self.assertEqual(self.right(several, powers, cap)[0], "mixes")
            words.append(self.right(several, powers, pair(real(cap) - Fraction(1, 10 ** 40)))[0])
            top = pair(sum(max(real(x) for x in own) for own in powers))
            self.assertEqual(self.right(several, powers, top)[0], "mixes")
        self.assertEqual(words, ["climbs"] * 4)

    def test_what_is_passed_stays(self):
        several, powers = [[UP, DOWN], [UP, DOWN]], [[(2, 1), (1, 1)], [(2, 1), (1, 1)]]
        together(several, powers, (3, 1))
        common_cap(several, powers)
        self.assertEqual((several, powers), (TWO, POWERS))


class JudgeTogether(unittest.TestCase):
    def test_each_fault(self):
        half = (1, 2)
        fine = (((0, 1), half), ((1, 0), half))
        cases = [
            (("mixes", fine), None), (("mixes", fine[::-1]), ("form",)), (("mixes", (fine[0], fine[0])), ("form",)),
            (("mixes", list(fine)), ("form",)), (("mixes", ()), ("form",)), (("mixes",), ("form",)),
            (["mixes", fine], ("form",)), (("mixes", fine, ()), ("form",)), (("mix", fine), ("form",)),
            (("mixes", (fine[0], ((1, 2), half))), ("form",)), (("mixes", (fine[0], ((1, -1), half))), ("form",)),
            (("mixes", (fine[0], ((1,), half))), ("form",)), (("mixes", (fine[0], ((1, 0, 0), half))), ("form",)),
            (("mixes", (fine[0], ((True, 0), half))), ("form",)), (("mixes", (fine[0], ((1, False), half))), ("form",)),
            (("mixes", (fine[0], ([1, 0], half))), ("form",)), (("mixes", (fine[0], [(1, 0), half])), ("form",)),
            (("mixes", (fine[0], ((1, 0), (2, 4)))), ("form",)), (("mixes", (fine[0], ((1, 0), 1))), ("form",)),
            (("mixes", (fine[0], ((1, 0),))), ("form",)), (("mixes", (fine[0], None)), ("form",)),
            (("mixes", (((0, 0), half), ((1, 0), half))), ("row", (0, 0))),
            (("mixes", (((0, 0), (-1, 2)), ((1, 1), half))), ("row", (0, 0))),
            (("mixes", (((0, 1), (0, 1)), ((1, 0), (1, 1)))), ("shares",)),
            (("mixes", (((0, 1), (-1, 2)), ((1, 0), (3, 2)))), ("shares",)),
            (("mixes", (((0, 1), half), ((1, 0), (1, 3)))), ("shares",)),
            (("mixes", (((0, 1), half), ((1, 0), (2, 3)))), ("shares",)),
            (("mixes", (((0, 1), (1, 3)), ((1, 0), (2, 3)))), ("level", 0, 0)),
            (("mixes", (((0, 1), half), ((1, 1), half))), ("level", 1, 0)),
            (("mixes", (((1, 1), (1, 1)),)), ("level", 0, 0)),
            (("climbs", (UP, UP)), ("slope", (0, 1))), (("climbs", (row(2), row(1))), ("slope", (1, 0))),
            (("climbs", (row(-2), row(-1))), ("slope", (0, 1))), (("climbs", (row(0), row(0))), ("slope", (0, 1))),
            (("climbs", (DOWN,)), ("form",)), (("climbs", (DOWN, DOWN, DOWN)), ("form",)),
            (("climbs", [DOWN, DOWN]), ("form",)), (("climbs", (DOWN, list(DOWN))), ("form",)),
            (("climbs", (DOWN, row(1, 1))), ("form",)), (("climbs", ()), ("form",)), (("climbs",), ("form",)),
            (None, ("form",)), ((), ("form",)),
        ]
        for value, fault in cases:
            self.assertEqual(judge_together(TWO, POWERS, (3, 1), value), fault, value)
            self.assertEqual(own_judge(TWO, POWERS, (3, 1), value), fault, value)

    def test_the_least_list_and_level(self):
        several = [[row(0, 1), row(0, -1)], [row(0, 0, 2), row(0, 0, -1)]]
        for shares, fault in ((((1, 2), (1, 2)), ("level", 1, 2)), (((1, 3), (2, 3)), ("level", 0, 1))):
            value = ("mixes", (((0, 0), shares[0]), ((1, 1), shares[1])))
            self.assertEqual(judge_together(several, POWERS, (9, 1), value), fault)
            self.assertEqual(own_judge(several, POWERS, (9, 1), value), fault)

    def test_any_value(self):
        rng = rng_for(4)
        told = []
        for _ in range(90):
            several, powers = random_lists(rng, rng.randint(1, 2), 3, 2, 2)
            cap = some_cap(rng, powers)
            value = together(several, powers, cap)
            others = [changed(value, rng) for _ in range(25)] + [shifted(value, rng) for _ in range(15)]
            rows = list(all_of(*[range(len(rates)) for rates in several]))
            for _ in range(4):
                some = sorted(rng.sample(rows, rng.randint(1, min(3, len(rows)))))
                others.append(("mixes", tuple((turns, pair(Fraction(1, len(some)))) for turns in some)))
                others.append(("climbs", tuple(random_row(rng, len(rates[0]), 2) for rates in several)))
            for other in others + ANY_VALUES:
                fault = own_judge(several, powers, cap, other)
                self.assertEqual(judge_together(several, powers, cap, other), fault, other)
                told.append("right" if fault is None else fault[0])
        for fault in ("right", "form", "row", "shares", "level", "slope"):
            self.assertGreater(told.count(fault), 20, fault)



class CommonCap(unittest.TestCase):
    def test_against_papers(self):
        rng = rng_for(5)
        found = []
        for _ in range(150):
            several, powers = random_lists(rng, rng.randint(1, 3), 3, 2, rng.choice([1, 9]), 0.8)
            cap = common_cap(several, powers)
            self.assertEqual(common_cap(tuple(tuple(r) for r in several), tuple(tuple(p) for p in powers)), cap)
            sums = sorted({sum(real(own[k]) for own, k in zip(powers, turns))
                           for turns in all_of(*[range(len(own)) for own in powers])})
            found.append(cap is None)
            if cap is None:
                self.assertEqual(together(several, powers, pair(sums[-1]))[0], "climbs")
                continue
            self.assertEqual(together(several, powers, cap)[0], "mixes")
            self.assertIn(real(cap), sums)
            below = [x for x in sums if x < real(cap)]
            for x in below[-1:] + [real(cap) - Fraction(1, 10 ** 12)]:
                value = together(several, powers, pair(x))
                self.assertEqual(value[0], "climbs")
                self.assertIsNone(own_judge(several, powers, pair(x), value))
        self.assertGreater(min(found.count(True), found.count(False)), 15)

    def test_all_rows_count(self):
        several = [[UP, DOWN] * 3, [UP, DOWN] * 3, [UP, DOWN] * 3]
        powers = [[(0, 1)] * 6, [(0, 1)] * 6, [pair(k) for k in range(6)]]
        self.assertEqual(together(several, powers, (1, 1))[0], "mixes")
        with self.assertRaises(TooMany):
            common_cap(several, powers)
        several[2], powers[2] = several[2][:5], powers[2][:5]
        self.assertEqual(common_cap(several, powers), (1, 1))
        lists, own = [[UP, DOWN] * 4, [UP, DOWN, UP, DOWN, UP]], [[(1, 1)] * 8, [(1, 1)] * 5]
        self.assertEqual(common_cap(lists + [lists[1]], own + [own[1]]), (3, 1))
        with self.assertRaises(TooMany):
            common_cap([[UP] * 3, [DOWN] * 67], [[(1, 1)] * 3, [(1, 1)] * 67])

    def test_none(self):
        self.assertIsNone(common_cap([[UP, UP]], [[(1, 1), (2, 1)]]))
        self.assertIsNone(common_cap([[UP, DOWN], [UP]], [[(1, 1), (2, 1)], [(0, 1)]]))
        self.assertEqual(common_cap([[UP, DOWN], [row(0, 0)]], [[(-1, 1), (-2, 1)], [(1, 2)]]), (-1, 2))


if __name__ == "__main__":
    unittest.main()
