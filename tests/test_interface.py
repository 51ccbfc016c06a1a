"""Each name of the document's interface stands in its file, with the arguments that are told there."""

import ast
import importlib
import os
import unittest

HERE = os.path.join(os.path.dirname(os.path.dirname(os.path.abspath(__file__))), "ledlevels")

INTERFACE = {
    "fractions": ["fraction(n, d)", "is_fraction(value)", "plus(x, y)", "minus(x, y)", "times_of(x, y)",
                  "divided(x, y)",
                  "is_less(x, y)", "size_of(x)", "ascending(fractions)"],
    "rows": ["is_row(value, many)", "added(one, other)", "taken(one, other)", "scaled(row, x)", "back(row)",
             "nought(many)", "product(one, other)", "sizes(row)"],
    "texts": ["fraction_text(x)", "row_text(row)", "room_text(room)", "plan_text(plan)", "read_fraction(text)",
              "read_row(text)", "read_room(text)", "read_plan(text)"],
    "tables": ["rank(rows)", "solved(columns, target)", "judge_solved(columns, target, value)"],
    "least": ["least(columns, costs, target)", "judge_least(columns, costs, target, value)"],
    "mixing": ["mixed(rows)", "judge_mixed(rows, value)", "corners(rows)"],
    "usable": ["usable(columns, target)", "judge_usable(columns, target, value)"],
    "rooms": ["is_room(value)", "is_place(room, value)", "inside(room, place)", "middle(room)",
              "wall_form(value, many)",
              "touched(room, place)", "slack(room, place, wall)", "least_slack(room, place)", "most_in(room, slope)"],
    "mills": ["is_rates(value, many)", "is_mill(value, many)", "choices(mill)", "rates_of(mill, choice)",
              "still(rates)"],
    "plans": ["is_plan(value, many)", "time_of(plan)", "drift(rates, steps)", "times_used(plan, many)",
              "end_of(rates, start, plan)", "place_at(rates, start, plan, time)", "first_out(room, rates, start, plan)",
              "joined(one, other)", "cut(plan, time)", "gone_back(plan)"],
    "walls": ["crosses(rate, wall)", "leaves(rate, wall)", "lets(rates, walls)", "holds(rates, lot, walls)",
              "rounds(rates, walls, lot)"],
    "kept": ["freed(room, rates, place, lot, most)", "kept(room, rates, place)",
             "judge_kept(room, rates, place, value)",
             "out_by(room, rates, place, walls, slope)", "kept_by_touch(rates, levels)",
             "kept_everywhere(rates, levels)"],
    "lots": ["left(room, rates, one, other)", "paper_holds(room, rates, one, other, lot, paper)",
             "barred(room, rates, one, other, lot)"],
    "ways": ["way(room, rates, one, other)", "judge_way(room, rates, one, other, value)"],
    "through": ["there_and_back(room, rates, one, other)", "through(room, rates, places)",
                "place_lots(room, rates, places)"],
    "times": ["least_time(rates, v)", "time_for(rates, v)", "judge_time(rates, v, value)",
              "quickest(room, rates, one, other)"],
    "sooner": ["never_slower(rates, others)", "judge_sooner(rates, others, value)", "alike_times(rates, others)"],
    "slopes": ["slopes(rates)", "time_by(told, v)"],
    "held": ["held(mill)", "judge_held(mill, value)", "driven_by(room, mill, place, choice, slope)"],
    "live": ["answers(mill, y)", "first_time(room, mill, start)", "played(room, mill, start, winds)"],
    "margins": ["bears(mill, e)", "judge_bears(mill, e, value)", "margin(mill)", "judge_margin(mill, value)"],
    "costs": ["least_cost(rates, costs)", "judge_cost(rates, costs, value)", "cost_of(costs, plan)",
              "mean_cost(costs, plan)", "cheapest(room, rates, costs, place)"],
    "weathered": ["held_cost(mill, costs)", "judge_held_cost(mill, costs, value)",
                  "cost_answers(mill, costs, cost, y, x)", "paid(room, mill, costs, cost, start, winds)"],
    "peaks": ["peak(rates, powers)", "judge_peak(rates, powers, value)"],
    "together": ["let_rows(powers, cap)", "together(several, powers, cap)",
                 "judge_together(several, powers, cap, value)", "common_cap(several, powers)"],
    "books": ["is_book(value, many)", "come_to(book, first)", "lots_of(book)", "is_by_book(book, first, plan)",
              "by_book(room, rates, book, first, place)", "judge_book(room, rates, book, first, place, value)",
              "book_time(room, rates, parts)"],
    "ticks": ["is_whole_room(value)", "is_whole_row(value)", "whole_places(room)", "led_tick(room, rates, place, k)",
              "by_ticks(room, rates, place)", "judge_ticks(room, rates, place, value)", "longest(room, rates, place)",
              "staying(room, rates)"],
    "deeds": ["is_plant(value)", "plant_text(plant)", "behind(state, deed)", "deed_text(deed)", "read_deed(text)"],
}
CLASSES = {
    "house": {"House": ["number(self)", "state(self)", "state_at(self, number)", "elders(self, number)",
                        "branches(self)",
                        "present(self)", "do(self, deed)", "undo(self)", "redo(self)", "branch(self, name)",
                        "go(self, name)", "merge(self, name)", "common(self, one, other)", "ask(self, question)",
                        "keep(self, label, question)", "labels(self)", "paper(self, label)", "today(self, label)"]},
    "console": {"Console": ["house(self)", "say(self, line)"]},
}


def read(name):
    with open(os.path.join(HERE, name + ".py"), encoding="utf-8") as file:
        return ast.parse(file.read())


def lines_of(body):
    """The functions of a file or class, as the document writes them."""
    return [f"{node.name}({', '.join(arg.arg for arg in node.args.args)})" for node in body
            if isinstance(node, ast.FunctionDef)]


class Interface(unittest.TestCase):
    def test_each_function_stands_in_its_file(self):
        for name, lines in INTERFACE.items():
            told = lines_of(read(name).body)
            for line in lines:
                self.assertIn(line, told, name)

    def test_each_class_has_its_methods_itself(self):
        for name, classes in CLASSES.items():
            found = {node.name: node for node in read(name).body if isinstance(node, ast.ClassDef)}
            for word, lines in classes.items():
                told = lines_of(found[word].body)
                for line in ["__init__(self)"] + lines:
                    self.assertIn(line, told, name)

    def test_each_file_can_be_imported(self):
        for name in list(INTERFACE) + list(CLASSES):
            importlib.import_module("ledlevels." + name)


if __name__ == "__main__":
    unittest.main()
