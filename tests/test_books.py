import unittest
from fractions import Fraction
from itertools import product as all_of

from ledlevels.books import book_time, by_book, come_to, is_book, is_by_book, judge_book, lots_of
from ledlevels.errors import NotInside
from tests.helping import (
    ANY_VALUES, are_pairs, changed, dot, is_pair, pair, random_row, real, rng_for, row, shifted)
from tests.test_costs import own_mixings
from tests.walking import (
    own_first_out, own_is_plan, random_place, random_plan, endless_plan, random_rates, random_room, single_steps)

HALL = (((0, 1), (4, 1)), ((0, 1), (7, 2)))
BOOK, THREE, SPOT = [(1,), (0, 2), ()], [((1, 1), (0, 1)), ((-1, 1), (0, 1)), ((0, 1), (1, 2))], ((1, 1), (1, 1))
PLAN = ((((0, (1, 2)), (1, (1, 2))), None),)
PARTS = (((2,), ((0, 1), (2, 1))),)


def own_is_book(value, many):
    if type(value) not in (list, tuple) or len(value) != many:
        return False
    for own in value:
        if type(own) is not tuple or not all(type(k) is int and 0 <= k < many for k in own):
            return False
        if list(own) != sorted(set(own)):
            return False
    return True


def own_come_to(book, first):
    """The turns that can be come to, by going on as long as there are new ones."""
    found = {first}
    while True:
        more = found | {follower for turn in found for follower in book[turn]}
        if more == found:
            return sorted(found)
        found = more


def own_lots(book):
    """The lots in their row: always the one with the least turn of those into which no other one leads."""
    lots = sorted({tuple(k for k in own_come_to(book,
                                                turn) if turn in own_come_to(book, k)) for turn in range(len(book))})
    out = []
    while lots:
        ready = [lot for lot in lots if not any(
            follower in lot for other in lots if other != lot for turn in other for follower in book[turn])]
        out.append(min(ready))
        lots.remove(min(ready))
    return out


def own_by_book(book, first, plan):
    """Whether a plan of few laps is by the book, step by step; a lap for ever is done twice."""
    turns = [turn for turn, _ in single_steps(plan, 2)]
    if not turns:
        return True
    return turns[0] == first and all(b == a or b in book[a] for a, b in zip(turns, turns[1:]))


def own_judge(room, rates, book, first, place, value):
    """What judge_book has to tell, by the words of the document."""
    if type(value) is not tuple or len(value) != 2 or type(value[0]) is not str or type(value[1]) is not tuple:
        return ("form",)
    word, told = value
    if word == "kept" and own_is_plan(told, len(rates)) and told and told[-1][1] is None:
        short = tuple((steps, n and min(n, 2)) for steps, n in told)
        if not own_by_book(book, first, short):
            return ("book",)
        out = own_first_out(room, rates, place, told)
        return None if out is None else ("leaves",) + out
    if word != "out":
        return ("form",)
    for part in told:
        if type(part) is not tuple or len(part) != 2 or type(part[0]) is not tuple or not part[0]:
            return ("form",)
        if not all(type(k) is int and 0 <= k < len(rates) for k in part[0]) or list(part[0]) != sorted(set(part[0])):
            return ("form",)
        if not are_pairs(part[1], len(room)):
            return ("form",)
    if first not in [k for lot, _ in told for k in lot]:
        return ("first",)
    for n, (lot, _) in enumerate(told):
        later = [k for other, _ in told[n:] for k in other]
        for k in lot:
            if any(follower not in later for follower in book[k]):
                return ("follower", n, k)
    for n, (lot, slope) in enumerate(told):
        for k in lot:
            if dot(slope, rates[k]) <= 0:
                return ("slope", n, k)
    return None


def random_book(rng, many, share=0.25):
    return [tuple(k for k in range(many) if rng.random() < share) for _ in range(many)]


class Books(unittest.TestCase):
    def test_examples(self):
        self.assertEqual(
            [is_book(BOOK, 3), is_book([(1, 0)], 2), is_book([(1,)], 1), come_to(BOOK, 0), come_to(BOOK, 2),
             lots_of(BOOK)],
            [True, False, False, [0, 1, 2], [2], [(0, 1), (2,)]])

    def test_is_book(self):
        for value, many, told in [
                ([()], 1, True), (((),), 1, True), ([(0,)], 1, True), ([(0, 1), (0, 1)], 2, True),
                ([(1, 0), ()], 2, False),
                ([(0, 0), ()], 2, False), ([(2,), ()], 2, False), ([(-1,), ()], 2, False), ([(True,), ()], 2, False),
                ([(False,), ()], 2, False), ([[1], ()], 2, False), ([()], 2, False), ([(), ()], 1, False),
                ([], 1, False),
                ([(), None], 2, False), ([(), 1], 2, False), ({0: ()}, 1, False), ("a", 1, False), (None, 1, False),
                ([((1, 1),), ()], 2, False), ([(0, None), ()], 2, False), ([], 0, True), ([({},)], 1, False)]:
            self.assertIs(is_book(value, many), told, value)
            self.assertIs(own_is_book(value, many), told, value)

    def test_is_book_of_any_values(self):
        rng = rng_for(1)
        told = []
        for _ in range(300):
            many = rng.randint(1, 8)
            book = random_book(rng, many)
            self.assertIs(is_book(book, many), True)
            self.assertIs(is_book(tuple(book), many), True)
            for value in [changed(book, rng) for _ in range(10)] + ANY_VALUES:
                told.append(is_book(value, many))
                self.assertIs(told[-1], own_is_book(value, many), value)
        self.assertGreater(told.count(True), 20)

    def test_come_to_and_lots(self):
        rng = rng_for(2)
        for _ in range(400):
            many = rng.randint(1, 8)
            book = random_book(rng, many, rng.choice([0.05, 0.15, 0.3]))
            lots = lots_of(book)
            self.assertEqual(lots, own_lots(book), book)
            self.assertIs(type(lots), list)
            self.assertEqual(lots_of(tuple(book)), lots)
            for first in range(many):
                told = come_to(book, first)
                self.assertEqual(told, own_come_to(book, first))
                self.assertIs(type(told), list)
                self.assertEqual(come_to(tuple(book), first), told)

    def test_the_row_of_lots(self):
        self.assertEqual(lots_of([(), (0,), (1,)]), [(2,), (1,), (0,)])
        self.assertEqual(lots_of([(), (), ()]), [(0,), (1,), (2,)])
        self.assertEqual(lots_of([(3,), (), (1,), ()]), [(0,), (2,), (1,), (3,)])
        self.assertEqual(lots_of([(1,), (2,), (0,), (0,)]), [(3,), (0, 1, 2)])
        self.assertEqual(lots_of([(4,), (3,), (), (1,), (0, 1)]), [(0, 4), (1, 3), (2,)])
        self.assertEqual(lots_of([(0,)]), [(0,)])

    def test_lists_are_new(self):
        book = [followers for followers in BOOK]
        lots_of(book).append(None)
        come_to(book, 0).append(None)
        self.assertEqual((book, lots_of(book), come_to(book, 0)), (BOOK, [(0, 1), (2,)], [0, 1, 2]))


class IsByBook(unittest.TestCase):
    def test_examples(self):
        self.assertEqual(
            [is_by_book(BOOK, 0, PLAN), is_by_book(BOOK, 1, PLAN), is_by_book([(1,), (2,), ()], 0, PLAN),
             is_by_book(BOOK, 2, ())],
            [True, False, False, True])

    def test_step_by_step(self):
        rng = rng_for(3)
        told = []
        for _ in range(1500):
            many = rng.randint(1, 4)
            book = random_book(rng, many, 0.6)
            plan = rng.choice([random_plan, endless_plan])(rng, many, 9, 2, 2, 3)
            first = rng.randrange(many)
            told.append(is_by_book(book, first, plan))
            self.assertIs(told[-1], own_by_book(book, first, plan), (book, first, plan))
            self.assertIs(is_by_book(tuple(book), first, plan), told[-1])
        self.assertGreater(min(told.count(True), told.count(False)), 300)

    def test_laps_again_and_again(self):
        book, one = [(1,), (2,), ()], (1, 1)
        lap = ((0, one), (1, one))
        self.assertIs(is_by_book(book, 0, ((lap, 1),)), True)
        for n in (2, 3, 10 ** 30, None):
            self.assertIs(is_by_book(book, 0, ((lap, n),)), False)
            self.assertIs(is_by_book([(1,), (0,), ()], 0, ((lap, n),)), True)
            self.assertIs(is_by_book(book, 0, ((((0, one),), n),)), True)
            self.assertIs(is_by_book(book, 0, ((lap, 1), (((1, one), (1, one)), n))), True)
            self.assertIs(is_by_book(book, 0, ((((0, one),), 5), (((1, one),), 5), (((2, one),), n))), True)
            self.assertIs(is_by_book(book, 0, ((((0, one),), 5), (((2, one),), n))), False)
        self.assertIs(is_by_book(book, 0, ((lap, 1), (((2, one),), 1), (((2, one),), 7))), True)
        self.assertIs(is_by_book(book, 0, ((lap, 1), (((2, one),), 1), (((0, one),), 1))), False)

    def test_steps_of_no_time_count(self):
        book, none, one = [(1,), (2,), ()], (0, 1), (1, 1)
        self.assertIs(is_by_book(book, 0, ((((0, one), (1, none), (2, one)), 1),)), True)
        self.assertIs(is_by_book(book, 0, ((((0, one), (2, none), (1, one)), 1),)), False)
        self.assertIs(is_by_book(book, 0, ((((2, none), (0, one)), 1),)), False)
        self.assertIs(is_by_book(book, 0, ((((0, none),), 3), (((1, none),), 3))), True)
        self.assertIs(is_by_book(book, 1, ((((0, none),), 1), (((1, one),), 1))), False)

    def test_the_greatest_plans(self):
        book = [((k + 1) % 8,) for k in range(8)]
        lap = tuple((k % 8, (1, k + 1)) for k in range(16)) + ((7, (1, 1)),) * 4
        plan = ((lap, 10 ** 9),) * 39
        self.assertIs(is_by_book(book, 0, plan + ((lap, None),)), True)
        self.assertIs(is_by_book(book, 0, plan + ((lap[:-1] + ((6, (1, 1)),), None),)), False)
        self.assertIs(is_by_book(book, 0, plan + ((lap[:15], None),)), False)
        self.assertIs(is_by_book(book, 0, plan + ((lap[:15], 1),)), True)
        self.assertIs(is_by_book(book, 7, plan), False)


class ByBook(unittest.TestCase):
    def right(self, room, rates, book, first, place):
        value = by_book(room, rates, book, first, place)
        self.assertIsNone(own_judge(room, rates, book, first, place, value), (room, rates, book, first, place, value))
        self.assertIsNone(judge_book(room, rates, book, first, place, value))
        self.assertEqual(by_book(room, tuple(rates), tuple(book), first, place), value)
        self.assertIsNone(judge_book(room, tuple(rates), tuple(book), first, place, value))
        mixing = [lot for lot in own_lots(book) if lot[0] in own_come_to(book, first) and own_mixings([rates[k] for k in lot])]
        self.assertIs(value[0] == "kept", mixing != [])
        return value

    def test_examples(self):
        self.assertEqual(
            [by_book(HALL, THREE, BOOK, 0, SPOT)[0], judge_book(HALL, THREE, BOOK, 0, SPOT, ("kept", PLAN)),
             judge_book(HALL, THREE, BOOK, 1, SPOT, ("kept", PLAN))],
            ["kept", None, ("book",)])
        self.assertEqual(
            [by_book(HALL, THREE, BOOK, 2, SPOT)[0], judge_book(HALL, THREE, BOOK, 2, SPOT, ("out", PARTS)),
             book_time(HALL, THREE, PARTS)],
            ["out", None, (7, 1)])
        self.assertEqual(
            [judge_book(HALL, THREE, BOOK, 0, SPOT, ("out", PARTS)),
             judge_book(HALL, THREE, BOOK, 1, SPOT, ("out", (((1,), SPOT),) + PARTS))],
            [("first",), ("follower", 0, 1)])
        with self.assertRaises(NotInside) as caught:
            by_book(HALL, THREE, BOOK, 0, ((0, 1), (1, 1)))
        self.assertEqual(caught.exception.number, 0)

    def test_both_answers(self):
        rng = rng_for(4)
        words = []
        for _ in range(300):
            levels, many, most = rng.randint(1, 4), rng.randint(1, 8), rng.choice([1, 1, 9, 999999])
            room = random_room(rng, levels, most)
            rates = random_rates(rng, many, levels, most, rng.choice([0.3, 0.7]))
            book = random_book(rng, many, rng.choice([0.1, 0.3]))
            words.append(self.right(room, rates, book, rng.randrange(many), random_place(rng, room, 0))[0])
        self.assertGreater(min(words.count("kept"), words.count("out")), 60)

    def test_the_lot_that_mixes_lies_behind_others(self):
        up, down, side = row(1, 0), row(-1, 0), row(0, 1)
        rates = [side, side, up, down, side]
        book = [(1,), (4,), (3,), (2,), (2,)]
        word, plan = self.right(HALL, rates, book, 0, SPOT)
        self.assertEqual((word, plan[0][0][0], plan[0][1]), ("kept", (0, (0, 1)), 1))
        self.assertEqual(own_first_out(HALL, rates, SPOT, plan), None)
        self.assertEqual(self.right(HALL, rates, book, 2, SPOT)[0], "kept")
        self.assertEqual(self.right(HALL, rates, book, 3, SPOT)[0], "kept")
        self.assertEqual(self.right(HALL, rates, [(1,), (0,), (3,), (2,), (2,)], 0, SPOT)[0], "out")

    def test_a_ring_through_turns_that_have_no_share(self):
        up, down, side = row(1, 0), row(-1, 0), row(0, 1)
        rates, book = [up, side, down, side], [(1,), (2,), (3,), (0,)]
        self.assertEqual(self.right(HALL, rates, book, 0, SPOT)[0], "kept")
        self.assertEqual(self.right(HALL, rates, book, 3, SPOT)[0], "kept")
        rates, book = [side, up, side, down], [(1, 3), (0,), (), (0,)]
        for first in (0, 1, 3):
            self.assertEqual(self.right(HALL, rates, book, first, SPOT)[0], "kept")

    def test_lots_of_one_turn(self):
        zero, up = row(0, 0), row(1, 0)
        self.assertEqual(self.right(HALL, [zero], [()], 0, SPOT)[0], "kept")
        self.assertEqual(self.right(HALL, [zero], [(0,)], 0, SPOT)[0], "kept")
        self.assertEqual(self.right(HALL, [up], [(0,)], 0, SPOT), ("out", by_book(HALL, [up], [(0,)], 0, SPOT)[1]))
        self.assertEqual(self.right(HALL, [up, zero], [(1,), ()], 0, SPOT)[0], "kept")
        self.assertEqual(self.right(HALL, [up, zero], [(), (0,)], 0, SPOT)[0], "out")

    def test_near_a_wall(self):
        rng = rng_for(5)
        near = row("1/999999", "6999985/1999996")
        rates = [row(999999, "1/7"), row(0, 999999), row("-999999", 5), row(3, -999999)]
        for book in ([(1,), (2,), (3,), (0,)], [(1, 2, 3), (0,), (0,), (0,)], random_book(rng, 4, 0.9)):
            self.assertEqual(self.right(HALL, rates, book, 1, near)[0], "kept")

    def test_not_inside(self):
        for place in (row(0, 1), row(4, 1), row(1, 0), row(1, "7/2"), row(9, 9), row(-1, 1)):
            with self.assertRaises(NotInside) as caught:
                by_book(HALL, THREE, BOOK, 0, place)
            self.assertEqual(caught.exception.number, 0)


class JudgeBook(unittest.TestCase):
    def test_each_fault(self):
        one, lap = (1, 1), ((0, (1, 2)), (1, (1, 2)))
        up, down, side = row(1, 0), row(-1, 0), row(0, 2)
        cases = [
            (("kept", PLAN), 0, None), (("kept", ((((0, one),), 1), (((1, one), (0, one)), None))), 0, None),
            (("kept", ((((0, (0, 1)),), 9), (((1, one), (0, one)), None))), 0, None),
            (("kept", PLAN), 2, ("book",)), (("kept", ((((0, one), (2, one)), None),)), 0, ("book",)),
            (("kept", ((((0, (9, 1)), (2, one)), None),)), 0, ("book",)),
            (("kept", ((((0, (0, 1)), (1, one), (2, (0, 1))), None),)), 0, ("book",)),
            (("kept", ((((2, one),), None),)), 2, ("leaves", (5, 1), (1, 1))),
            (("kept", ((((0, (4, 1)), (1, (4, 1))), None),)), 0, ("leaves", (3, 1), (0, 1))),
            (("kept", ((((0, one),), 2), (((1, (1, 1)),), None))), 0, ("leaves", (5, 1), (0, -1))),
            (("kept", ((lap, 3),)), 0, ("form",)), (("kept", ()), 0, ("form",)),
            (("kept", ((lap, None), (lap, 1))), 0, ("form",)),
            (("kept", ((((3, one),), None),)), 0, ("form",)), (("kept", ((((True, one),), None),)), 1, ("form",)),
            (("kept", ((((0, (0, 1)),), None),)), 0, ("form",)), (("kept", [(lap, None)]), 0, ("form",)),
            (["kept", PLAN], 0, ("form",)), (("kept", PLAN, 0), 0, ("form",)), (("keeps", PLAN), 0, ("form",)),
            (("out", PARTS), 2, None), (("out", (((2,), side),) * 2), 2, None), (("out", ()), 2, ("first",)),
            (("out", PARTS), 1, ("first",)), (("out", (((0, 1), up),) + PARTS), 0, ("slope", 0, 1)),
            (("out", (((0, 1), down),) + PARTS), 0, ("slope", 0, 0)), (("out", (((0, 1), up),)), 0, ("follower", 0, 1)),
            (("out", PARTS + (((0, 1), up),)), 0, ("follower", 1, 1)),
            (("out", (((0,), up), ((1,), down)) + PARTS), 0, ("follower", 1, 1)),
            (("out", (((1,), down), ((0,), up)) + PARTS), 0, ("follower", 1, 0)),
            (("out", (((0, 1, 2), up),)), 0, ("slope", 0, 1)), (("out", (((2,), down),)), 2, ("slope", 0, 2)),
            (("out", (((2,), row(0, 0)),)), 2, ("slope", 0, 2)),
            (("out", (((0,), up), ((0, 1, 2), down))), 1, ("slope", 1, 0)),
            (("out", (((0,), down), ((1,), up))), 2, ("first",)),
            (("out", (((0,), down), ((2,), down))), 2, ("follower", 0, 0)),
            (("out", (((1, 0), up),) + PARTS), 0, ("form",)), (("out", (((0, 0), up),) + PARTS), 0, ("form",)),
            (("out", (((), up),) + PARTS), 2, ("form",)), (("out", (((3,), up),)), 0, ("form",)),
            (("out", (((-1,), up),)), 0, ("form",)), (("out", (((True,), up),)), 1, ("form",)),
            (("out", (((False,), up),)), 0, ("form",)), (("out", (([2], side),)), 2, ("form",)),
            (("out", (((2,), list(side)),)), 2, ("form",)), (("out", (((2,), row(1)),)), 2, ("form",)),
            (("out", ([(2,), side],)), 2, ("form",)), (("out", (((2,), side, 0),)), 2, ("form",)),
            (("out", list(PARTS)), 2, ("form",)), (("out",), 2, ("form",)), (["out", PARTS], 2, ("form",)),
            (None, 0, ("form",)),
        ]
        for value, first, fault in cases:
            self.assertEqual(judge_book(HALL, THREE, BOOK, first, SPOT, value), fault, value)
            self.assertEqual(own_judge(HALL, THREE, BOOK, first, SPOT, value), fault, value)

    def test_any_value(self):
        rng = rng_for(6)
        told = []
        for _ in range(120):
            levels, many = rng.randint(1, 2), rng.randint(1, 4)
            room, rates = random_room(rng, levels, 3), random_rates(rng, many, levels, 2, 0.3)
            book, first, place = random_book(rng, many, 0.3), rng.randrange(many), random_place(rng, room, 0)
            value = by_book(room, rates, book, first, place)
            others = [changed(value, rng) for _ in range(30)] + [shifted(value, rng) for _ in range(15)]
            others += [("kept", endless_plan(rng, many, 2)) for _ in range(3)]
            for _ in range(5):
                lots = [tuple(sorted(rng.sample(range(many), rng.randint(1, many)))) for _ in range(rng.randint(1, 3))]
                others.append(("out", tuple((lot, random_row(rng, levels, 2)) for lot in lots)))
            others.append(("out", tuple((lot, random_row(rng, levels, 2)) for lot in own_lots(book))))
            for other in others + ANY_VALUES:
                fault = own_judge(room, rates, book, first, place, other)
                self.assertEqual(judge_book(room, rates, book, first, place, other), fault, other)
                told.append("right" if fault is None else fault[0])
        for fault in ("right", "form", "book", "leaves", "first", "follower", "slope"):
            self.assertGreater(told.count(fault), 20, fault)


class BookTime(unittest.TestCase):
    def test_against_sums(self):
        rng = rng_for(7)
        found = 0
        for _ in range(250):
            levels, many, most = rng.randint(1, 3), rng.randint(1, 5), rng.choice([3, 999999])
            room, rates = random_room(rng, levels, most), random_rates(rng, many, levels, most, 0)
            book, first = random_book(rng, many, 0.2), rng.randrange(many)
            word, parts = by_book(room, rates, book, first, random_place(rng, room, 0))
            if word == "kept":
                continue
            wanted = Fraction(0)
            for lot, slope in parts:
                products = [dot(slope, z) for z in all_of(*room)]
                wanted += (max(products) - min(products)) / min(dot(slope, rates[k]) for k in lot)
            told = book_time(room, rates, parts)
            self.assertTrue(is_pair(told))
            self.assertEqual(real(told), wanted)
            self.assertEqual(book_time(room, tuple(rates), parts), told)
            found += len(parts) > 1
        self.assertGreater(found, 30)

    def test_several_parts_and_slopes_of_any_size(self):
        parts = (((0,), row(2, 0)), ((1,), row("-1/3", 0)), ((2,), row(1, 1)))
        self.assertEqual(book_time(HALL, THREE, parts), (23, 1))
        self.assertEqual(book_time(HALL, [row(1, 0), row(2, 1)], (((0, 1), row(1, 1)),)), pair(Fraction(15, 2)))
        self.assertEqual(book_time(HALL, [row(3, 0), row(2, 1)], (((0, 1), row(10 ** 30, 0)),)), (2, 1))


if __name__ == "__main__":
    unittest.main()
