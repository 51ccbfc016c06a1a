"""What the document promises over the whole program: nothing that is passed changes, what is told is new,
lists may be passed as tuples, a repeated call tells the same, and judges take any values."""

import importlib
import unittest

from ledlevels.house import House
from tests.helping import ANY_VALUES, row
from tests.test_interface import INTERFACE

ONE, HALF, FOUR = (1, 1), (1, 2), (4, 1)
UP, DOWN, FALL, STILL = row(1), row(-1), row(-2), row(0)
LINE, SQUARE = (((0, 1), (4, 1)),), (((0, 1), (4, 1)), ((0, 1), (4, 1)))
EAST, WEST, NORTH, SOUTH = row(1, 0), row(-1, 0), row(0, 1), row(0, -1)
AROUND, SPOT, CORNER = [EAST, WEST, NORTH, SOUTH], row(1, 2), row(0, 0)
MILL, WILD = [(UP, row(2)), (DOWN,)], [(UP, DOWN), (UP,)]
MILL_COSTS = [(ONE, FOUR), (HALF,)]
PLAN, EVER = ((((0, ONE), (1, HALF)), 2),), ((((0, HALF), (1, HALF)), None),)
BOOK, TWO, POWERS = [(1,), (0, 2), (), ()], [[UP, DOWN], [UP, DOWN]], [[(2, 1), ONE], [(2, 1), ONE]]
WELL = (((0, 1), (2, 1)),)
STATE = {"a": (LINE, ((UP,), (DOWN,)), (ONE, ONE)), "b": (LINE, (), ())}

CALLS = [
    ("fractions", "fraction", 4, -6), ("fractions", "is_fraction", (1, 2)), ("fractions", "plus", ONE, HALF),
    ("fractions", "minus", ONE, HALF), ("fractions", "times_of", ONE, HALF), ("fractions", "divided", ONE, HALF),
    ("fractions", "is_less", ONE, HALF), ("fractions", "size_of", (-1, 2)),
    ("fractions", "ascending", [ONE, HALF, ONE]),
    ("rows", "is_row", SPOT, 2), ("rows", "added", EAST, NORTH), ("rows", "taken", EAST, NORTH),
    ("rows", "scaled", EAST, HALF),
    ("rows", "back", EAST), ("rows", "nought", 3), ("rows", "product", EAST, NORTH), ("rows", "sizes", SPOT),
    ("texts", "fraction_text", HALF), ("texts", "row_text", SPOT), ("texts", "room_text", SQUARE),
    ("texts", "plan_text", PLAN),
    ("texts", "read_fraction", "1/2"), ("texts", "read_row", "(1 2)"), ("texts", "read_room", "[0 4]"),
    ("texts", "read_plan", "(0:1 1:1/2)*2"),
    ("tables", "rank", AROUND), ("tables", "solved", AROUND, SPOT), ("tables", "solved", [EAST], SPOT),
    ("tables", "judge_solved", AROUND, SPOT, ("solved", row(1, 0, 2, 0))),
    ("least", "least", AROUND, [ONE, ONE, ONE, ONE], SPOT), ("least", "least", [EAST], [ONE], SPOT),
    ("least", "least", [UP, DOWN], [ONE, (-2, 1)], UP),
    ("least", "judge_least", AROUND, [ONE, ONE, ONE, ONE], SPOT, ("least", row(1, 0, 2, 0), row(1, 1))),
    ("mixing", "mixed", AROUND), ("mixing", "mixed", [EAST]),
    ("mixing", "judge_mixed", [UP, DOWN], ("mixes", (HALF, HALF))),
    ("mixing", "corners", AROUND), ("usable", "usable", [UP, DOWN, STILL], UP), ("usable", "usable", [UP], DOWN),
    ("usable", "judge_usable", [UP, STILL], UP, [("used", row(1, 0)), ("used", row(1, 1))]),
    ("rooms", "is_room", LINE), ("rooms", "is_place", SQUARE, SPOT), ("rooms", "inside", SQUARE, SPOT),
    ("rooms", "middle", SQUARE),
    ("rooms", "wall_form", (0, 1), 2), ("rooms", "touched", SQUARE, CORNER), ("rooms", "slack", SQUARE, SPOT, (0, 1)),
    ("rooms", "least_slack", SQUARE, SPOT), ("rooms", "most_in", SQUARE, SPOT),
    ("mills", "is_rates", AROUND, 2), ("mills", "is_mill", MILL, 1), ("mills", "choices", MILL),
    ("mills", "rates_of", MILL, (1, 0)),
    ("mills", "still", AROUND),
    ("plans", "is_plan", PLAN, 2), ("plans", "time_of", PLAN), ("plans", "drift", AROUND, PLAN[0][0]),
    ("plans", "times_used", PLAN, 4),
    ("plans", "end_of", AROUND, SPOT, PLAN), ("plans", "place_at", AROUND, SPOT, EVER, (7, 3)),
    ("plans", "first_out", SQUARE, AROUND, SPOT, EVER), ("plans", "joined", PLAN, EVER), ("plans", "cut", EVER, (7, 3)),
    ("plans", "gone_back", PLAN),
    ("walls", "crosses", EAST, (0, 1)), ("walls", "leaves", EAST, (0, -1)), ("walls", "lets", AROUND, [(0, 1)]),
    ("walls", "holds", AROUND, [0, 1], [(0, 1)]), ("walls", "rounds", AROUND, [(0, -1), (1, -1)], [3, 0, 2]),
    ("kept", "freed", SQUARE, AROUND, CORNER, [0, 2, 2], HALF), ("kept", "kept", SQUARE, AROUND, CORNER),
    ("kept", "kept", SQUARE, [EAST], CORNER), ("kept", "judge_kept", SQUARE, AROUND, SPOT, ("kept", EVER)),
    ("kept", "out_by", SQUARE, [EAST], SPOT, (), EAST), ("kept", "kept_by_touch", AROUND, 2),
    ("kept", "kept_everywhere", AROUND, 2),
    ("lots", "left", SQUARE, AROUND, CORNER, SPOT),
    ("lots", "paper_holds", SQUARE, AROUND, CORNER, SPOT, (0,), ("end", row(0, -1))),
    ("lots", "barred", SQUARE, AROUND, CORNER, SPOT, (0,)), ("ways", "way", SQUARE, AROUND, CORNER, SPOT),
    ("ways", "way", SQUARE, [EAST], SPOT, CORNER), ("ways", "judge_way", SQUARE, AROUND, SPOT, SPOT, ("way", ())),
    ("through", "there_and_back", SQUARE, AROUND, CORNER, SPOT),
    ("through", "through", SQUARE, AROUND, [CORNER, SPOT, CORNER]),
    ("through", "through", SQUARE, [EAST], [SPOT, CORNER]), ("through", "place_lots", SQUARE, AROUND, [CORNER, SPOT]),
    ("times", "least_time", AROUND, SPOT), ("times", "time_for", AROUND, SPOT),
    ("times", "judge_time", AROUND, SPOT, ("least", row(1, 0, 2, 0), row(1, 1))),
    ("times", "quickest", SQUARE, AROUND, SPOT, row(3, 3)),
    ("sooner", "never_slower", AROUND, [row(HALF[0], 0), EAST]), ("sooner", "never_slower", [EAST], [EAST, NORTH]),
    ("sooner", "judge_sooner", AROUND, [EAST], ("quick", [row(1, 0, 0, 0)])), ("sooner", "alike_times", AROUND, [EAST]),
    ("slopes", "slopes", AROUND), ("slopes", "time_by", ([row(1, 1)], []), SPOT),
    ("held", "held", MILL), ("held", "held", WILD), ("held", "judge_held", WILD, ("driven", (0, 0), UP)),
    ("held", "driven_by", LINE, WILD, UP, (0, 0), UP),
    ("live", "answers", MILL, UP), ("live", "first_time", LINE, MILL, UP),
    ("live", "played", LINE, MILL, UP, [(0, 0), (1, 0)]),
    ("margins", "bears", MILL, HALF), ("margins", "bears", MILL, FOUR),
    ("margins", "judge_bears", MILL, FOUR, ("gives", (0, 0), UP)),
    ("margins", "margin", MILL), ("margins", "judge_margin", MILL, (ONE, (0, 0), DOWN)),
    ("costs", "least_cost", [UP, DOWN], [ONE, HALF]), ("costs", "judge_cost", [UP], [ONE], ("climbs", UP)),
    ("costs", "cost_of", [ONE, HALF], PLAN), ("costs", "mean_cost", [ONE, HALF], EVER),
    ("costs", "cheapest", LINE, [UP, DOWN], [ONE, HALF], UP),
    ("weathered", "held_cost", MILL, MILL_COSTS),
    ("weathered", "judge_held_cost", MILL, MILL_COSTS, ("least", ONE, (0, 0), UP)),
    ("weathered", "cost_answers", MILL, MILL_COSTS, ONE, UP, HALF),
    ("weathered", "paid", LINE, MILL, MILL_COSTS, ONE, UP, [(1, 0)]),
    ("peaks", "peak", [UP, DOWN, FALL], [ONE, FOUR, HALF]), ("peaks", "judge_peak", [UP], [ONE], ("climbs", UP)),
    ("together", "let_rows", POWERS, FOUR), ("together", "together", TWO, POWERS, (3, 1)),
    ("together", "judge_together", TWO, POWERS, (2, 1), ("climbs", (DOWN, DOWN))),
    ("together", "common_cap", TWO, POWERS),
    ("books", "is_book", BOOK, 4), ("books", "come_to", BOOK, 0), ("books", "lots_of", BOOK),
    ("books", "is_by_book", BOOK, 0, EVER),
    ("books", "by_book", SQUARE, AROUND, BOOK, 0, SPOT), ("books", "by_book", SQUARE, AROUND, BOOK, 2, SPOT),
    ("books", "judge_book", SQUARE, AROUND, BOOK, 0, SPOT, ("kept", EVER)),
    ("books", "book_time", SQUARE, AROUND, (((2,), NORTH),)),
    ("ticks", "is_whole_room", WELL), ("ticks", "is_whole_row", UP), ("ticks", "whole_places", WELL),
    ("ticks", "led_tick", WELL, [UP], UP, 0),
    ("ticks", "by_ticks", WELL, [UP], UP), ("ticks", "by_ticks", WELL, [UP, DOWN], UP),
    ("ticks", "judge_ticks", WELL, [UP], UP, ("ranks", {UP: 1, row(2): 0})), ("ticks", "longest", WELL, [UP], UP),
    ("ticks", "staying", WELL, [UP, DOWN]),
    ("deeds", "is_plant", STATE["a"]), ("deeds", "plant_text", STATE["a"]),
    ("deeds", "behind", STATE, ("put", "b", "a")),
    ("deeds", "deed_text", ("drop", "a", 0)), ("deeds", "read_deed", "drop a 0"),
]
FORMS = ["is_fraction", "is_row", "is_room", "wall_form", "is_rates", "is_mill", "is_plan", "is_book", "is_whole_room",
         "is_whole_row", "is_plant"]


def call_of(name, word):
    return getattr(importlib.import_module("ledlevels." + name), word)


def as_tuples(value):
    """A value with tuples in the place of its lists, but for those within a dict."""
    return tuple(as_tuples(part) for part in value) if type(value) in (list, tuple) else value


def copied(value):
    """A value like this one, with lists and dicts of its own."""
    if type(value) in (list, tuple):
        return type(value)(copied(part) for part in value)
    return {key: copied(value[key]) for key in value} if type(value) is dict else value


def inner_lists(value):
    """All lists and dicts within a value, itself, too."""
    out = [value] if type(value) in (list, dict) else []
    for part in value.values() if type(value) is dict else value if type(value) in (list, tuple) else ():
        out.extend(inner_lists(part))
    return out


def spoil(value):
    """Change all lists and dicts within a value."""
    for one in inner_lists(value):
        one.clear()
        one.update({"spoilt": 1}) if type(one) is dict else one.append("spoilt")


class Whole(unittest.TestCase):
    def test_each_call_is_here(self):
        here = {(name, word) for name, word, *_ in CALLS}
        for name, lines in INTERFACE.items():
            for line in lines:
                self.assertIn((name, line.partition("(")[0]), here)

    def test_what_is_passed_stays_and_a_call_tells_the_same_again(self):
        for name, word, *given in CALLS:
            mine = copied(given)
            told = call_of(name, word)(*mine)
            self.assertEqual(repr(mine), repr(given), word)
            again = call_of(name, word)(*mine)
            self.assertEqual(repr(again), repr(told), word)
            self.assertEqual(repr(call_of(name, word)(*[as_tuples(one) for one in given])), repr(told), word)

    def test_what_is_told_is_new(self):
        for name, word, *given in CALLS:
            mine = copied(given)
            told = call_of(name, word)(*mine)
            shown = repr(told)
            lists = inner_lists(told) + inner_lists(list(mine))
            self.assertEqual(len({id(one) for one in lists}), len(lists), word)
            spoil(told)
            self.assertEqual(repr(mine), repr(given), word)
            self.assertEqual(repr(call_of(name, word)(*mine)), shown, word)

    def test_judges_take_what_any_call_tells(self):
        values = [call_of(name, word)(*given) for name, word, *given in CALLS] + ANY_VALUES
        values += [list(value) for value in values if type(value) is tuple]
        for name, word, *given in CALLS:
            for value in values:
                if word.startswith("judge_"):
                    told = call_of(name, word)(*given[:-1], value)
                    self.assertTrue(told is None or type(told) is tuple and type(told[0]) is str, (word, value))
                elif word in FORMS:
                    self.assertIs(type(call_of(name, word)(value, *given[1:])), bool, (word, value))

    def test_a_place_of_any_value(self):
        for value in ANY_VALUES:
            self.assertIs(type(call_of("rooms", "is_place")(SQUARE, value)), bool)

    def test_true_and_false_are_no_integers(self):
        for name, word, *given in CALLS:
            if word.startswith("judge_"):
                right = given[-1]
                fault = call_of(name, word)(*given)
                for wrong in bools_in(right):
                    self.assertEqual(call_of(name, word)(*given[:-1], wrong), ("form",), (word, wrong, fault))
            elif word in FORMS:
                for wrong in bools_in(given[0]):
                    self.assertIs(call_of(name, word)(wrong, *given[1:]), False, (word, wrong))

    def test_plans_that_are_told_can_be_written_and_read(self):
        for plan in (call_of("kept", "kept")(SQUARE, AROUND, CORNER)[1],
                     call_of("ways", "way")(SQUARE, AROUND, CORNER, SPOT)[1],
                     call_of("times", "quickest")(SQUARE, AROUND, SPOT, row(3, 3)),
                     call_of("costs", "cheapest")(LINE, [UP, DOWN], [ONE, HALF], UP),
                     call_of("books", "by_book")(SQUARE, AROUND, BOOK, 0, SPOT)[1]):
            self.assertEqual(call_of("texts", "read_plan")(call_of("texts", "plan_text")(plan)), plan)

    def test_a_house_keeps_nothing_that_is_passed(self):
        house = House()
        for deed in (("room", "a", LINE), ("turn", "a", (UP,), ONE), ("turn", "a", (DOWN,), ONE)):
            house.do(deed)
        house.keep("p", ("held", "a"))
        for told in (house.state(), house.branches(), house.labels(), house.paper("p"), house.ask(("held", "a")),
                     house.state_at(3),
                     house.keep("q", ("held", "a"))):
            spoil(told)
        self.assertEqual(house.state(), {"a": (LINE, ((UP,), (DOWN,)), (ONE, ONE))})
        self.assertEqual([house.paper("p")[1], house.paper("q")[1]], [("held", [(HALF, HALF)])] * 2)
        self.assertEqual([house.today("p"), house.today("q"), house.labels(), house.branches()],
                         [None, None, ["p", "q"], ["main"]])


def bools_in(value):
    """All values like this one with True in the place of a 1, or False in that of a 0."""
    if type(value) is int and value in (0, 1):
        return [bool(value)]
    out = []
    if type(value) in (list, tuple):
        for k, part in enumerate(value):
            for one in bools_in(part):
                parts = list(value)
                parts[k] = one
                out.append(type(value)(parts))
    elif type(value) is dict:
        for key in value:
            out += [{**value, key: one} for one in bools_in(value[key])]
            for one in bools_in(key):
                out.append({(one if word == key else word): value[word] for word in value})
    return out


if __name__ == "__main__":
    unittest.main()
