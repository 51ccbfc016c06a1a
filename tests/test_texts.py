import re
import unittest
from fractions import Fraction
from math import gcd

from ledlevels.errors import BadText
from ledlevels.texts import (
    fraction_text, plan_text, read_fraction, read_plan, read_room, read_row, room_text, row_text)
from tests.helping import ANY_VALUES, pair, random_pair, random_row, real, rng_for, row

NUMBER = r"(?:0|[1-9][0-9]{0,199})"
INTEGER = r"(?:0|-?[1-9][0-9]{0,199})"
FRACTION = INTEGER + r"(?:/" + NUMBER + r")?"
TIME = NUMBER + r"(?:/" + NUMBER + r")?"
ROW = r"\(" + FRACTION + r"(?: " + FRACTION + r"){0,3}\)"
LEVEL = r"\[" + FRACTION + " " + FRACTION + r"\]"
ROOM = LEVEL + r"(?: " + LEVEL + r"){0,3}"
STEP = NUMBER + ":" + TIME
STEPS = r"\(" + STEP + r"(?: " + STEP + r")*\)\*"
PLAN = r"(?:(?:" + STEPS + NUMBER + r" )*" + STEPS + r"(?:" + NUMBER + r")?)?"

# For each reader: the form of its texts, and ends that make a whole text of each beginning of one.
FORMS = {
    read_fraction: (FRACTION, ["", "1"]),
    read_row: (ROW, ["", ")", "1)"]),
    read_room: (ROOM, ["", "]", "1]", " 1]", "1 1]", "[1 1]"]),
    read_plan: (PLAN, ["", "*", ")*", "1)*", ":1)*", "1:1)*", "(1:1)*"]),
}


def can_begin(form, ends, text):
    """Whether some text of this form begins with these characters."""
    return any(re.fullmatch(form, text + end) for end in ends)


def is_none_there(read, text, at):
    """Whether something ends just ahead of this place that is whole by its form and yet none."""
    ahead, then = text[:at], text[at:at + 1]
    over = re.search(r"(?:^|[^0-9/])(-?" + NUMBER + ")/(" + NUMBER + ")$", ahead)
    if over and not (then.isdigit() and over.group(2) != "0" and len(over.group(2)) < 200):
        n, d = int(over.group(1)), int(over.group(2))
        if d < 2 or gcd(n, d) != 1:
            return True
    if read is read_room and ahead.endswith("]"):
        low, high = ahead[ahead.rindex("[") + 1:-1].split(" ")
        return Fraction(low) >= Fraction(high)
    if read is read_plan and ahead.endswith("*0"):
        return True
    if read is read_plan and ahead.endswith("*") and then == "":
        steps = ahead[ahead.rindex("(") + 1:-2].split(" ")
        return all(Fraction(step.split(":")[1]) == 0 for step in steps)
    return False


def own_place(read, text):
    """Where a text cannot go on, None if it is whole: by the words of the document, step by step."""
    form, ends = FORMS[read]
    for at in range(len(text) + 1):
        if is_none_there(read, text, at):
            return at
        if at == len(text):
            return None if re.fullmatch(form, text) else at
        if not can_begin(form, ends, text[:at + 1]):
            return at


def place_of(read, text):
    """The place of BadText, None if the text is read."""
    try:
        read(text)
    except BadText as error:
        return error.place
    return None


def random_room(rng, many, most):
    levels = []
    while len(levels) < many:
        low, high = random_pair(rng, most), random_pair(rng, most)
        if real(low) < real(high):
            levels.append((low, high))
    return tuple(levels)


def random_plan(rng, most):
    laps = []
    for _ in range(rng.randint(0, 4)):
        steps = tuple((rng.randint(0, 12), random_pair(rng, most, False)) for _ in range(rng.randint(1, 4)))
        laps.append((steps, rng.choice([1, 2, 10, most])))
    if rng.random() < 0.5:
        laps.append((((0, (0, 1)), (1, random_pair(rng, most, False)), (3, (1, 3))), None))
    return tuple(laps)


class Texts(unittest.TestCase):
    def fails(self, read, text, place):
        with self.assertRaises(BadText) as caught:
            read(text)
        self.assertEqual(caught.exception.place, place, (read.__name__, text))

    def test_examples(self):
        skew = ((1, 2), (-3, 1))
        room, plan = (((0, 1), (4, 1)), ((0, 1), (7, 2))), ((((0, (1, 1)), (2, (1, 2))), 3), (((1, (1, 1)),), None))
        self.assertEqual(
            [fraction_text((-1, 2)), row_text(skew), room_text(room), plan_text(plan), plan_text(())],
            ["-1/2", "(1/2 -3)", "[0 4] [0 7/2]", "(0:1 2:1/2)*3 (1:1)*", ""])
        self.assertEqual(
            [read_fraction("7/2"), read_row("(1/2 -3)") == skew, read_room("[0 4] [0 7/2]") == room,
             read_plan("(0:1 2:1/2)*3 (1:1)*") == plan, read_plan("")],
            [(7, 2), True, True, True, ()])
        self.fails(read_row, "(1 2/4)", 6)
        self.fails(read_row, "(1 -0)", 4)
        self.fails(read_plan, "(0:0)*", 6)

    def test_there_and_back(self):
        rng = rng_for(1)
        for most in (1, 3, 999999, 10 ** 200 - 1):
            for _ in range(60):
                x = random_pair(rng, most)
                self.assertEqual(read_fraction(fraction_text(x)), x)
                for many in range(1, 5):
                    one = random_row(rng, many, most)
                    self.assertEqual(read_row(row_text(one)), one)
                    room = random_room(rng, many, most)
                    self.assertEqual(read_room(room_text(room)), room)
                plan = random_plan(rng, most)
                self.assertEqual(read_plan(plan_text(plan)), plan)

    def test_texts_of_their_own(self):
        self.assertEqual(fraction_text((0, 1)), "0")
        self.assertEqual(fraction_text((-12, 1)), "-12")
        self.assertEqual(fraction_text((10, 7)), "10/7")
        self.assertEqual(row_text(row(0)), "(0)")
        self.assertEqual(row_text(row(*range(12))), "(0 1 2 3 4 5 6 7 8 9 10 11)")
        self.assertEqual(room_text(((pair("-1/2"), pair("1/3")),)), "[-1/2 1/3]")
        self.assertEqual(plan_text(((((0, (0, 1)),), 1),)), "(0:0)*1")

    def test_great_numbers_are_written(self):
        for figures in (63, 64, 65, 128, 129, 200, 1000, 6000):
            for digit in ("1", "9"):
                text = digit + "0" * (figures - 1)
                n = 0
                for figure in text:
                    n = n * 10 + int(figure)
                self.assertEqual(fraction_text((n, 1)), text)
                self.assertEqual(fraction_text((-n, 1)), "-" + text)
                self.assertEqual(fraction_text((1, n)) if n > 1 else "", "1/" + text if n > 1 else "")
        x = (10 ** 999 + 1, 10 ** 999 + 2)
        self.assertEqual(fraction_text(x), str(x[0]) + "/" + str(x[1]))

    def test_what_is_no_string(self):
        for read in FORMS:
            for value in ANY_VALUES:
                if type(value) is not str:
                    self.fails(read, value, 0)

    def test_strings_of_any_kind(self):
        for read in FORMS:
            for value in ANY_VALUES:
                if type(value) is str:
                    self.assertEqual(place_of(read, value), own_place(read, value), value)

    def test_fractions_that_cannot_go_on(self):
        for text, place in (
                ("", 0), (" ", 0), ("-", 1), ("--1", 1), ("+1", 0), ("-0", 1), ("-01", 1), ("00", 1), ("01", 1),
                ("1 ", 1), (" 1", 0), ("1/", 2), ("/2", 0), ("1/-2", 2), ("1/ 2", 2), ("1//2", 2), ("1/2/3", 3),
                ("1/1", 3), ("1/0", 3), ("0/5", 3), ("0/1", 3), ("2/4", 3), ("-6/4", 4), ("1/02", 3), ("2/4x", 3),
                ("1/0/", 3), ("1.5", 1), ("1\n", 1), ("\t1", 0), ("1_0", 1), ("-1/", 3), ("-/2", 1), ("x", 0),
                ("4/6", 3), ("1/2)", 3)):
            self.fails(read_fraction, text, place)
        for text in ("0", "-1", "10", "1/2", "-3/2", "1/10", "1/12", "7/100"):
            self.assertEqual(fraction_text(read_fraction(text)), text)

    def test_two_hundred_figures_and_one_more(self):
        most = "9" * 200
        self.assertEqual(read_fraction(most), (10 ** 200 - 1, 1))
        self.assertEqual(read_fraction("-" + most), (1 - 10 ** 200, 1))
        self.assertEqual(read_fraction("1/" + most), (1, 10 ** 200 - 1))
        self.fails(read_fraction, most + "9", 200)
        self.fails(read_fraction, "-" + most + "0", 201)
        self.fails(read_fraction, "1/" + most + "9", 202)
        self.fails(read_fraction, "3/" + most + "9", 202)
        self.fails(read_fraction, "3/" + most, 202)
        self.fails(read_row, "(" + most + "9)", 201)
        self.fails(read_row, "(1 1/" + most + "9)", 205)
        self.fails(read_room, "[" + most + "9 1]", 201)
        self.fails(read_room, "[1 " + most + "9]", 203)
        self.fails(read_plan, "(" + most + "9:1)*", 201)
        self.fails(read_plan, "(1:" + most + "9)*", 203)
        self.fails(read_plan, "(1:1/" + most + "9)*", 205)
        self.fails(read_plan, "(1:1)*" + most + "9", 206)
        self.assertEqual(read_plan("(" + most + ":" + most + ")*" + most), ((((10 ** 200 - 1, (10 ** 200 - 1, 1)),),
                                                                             10 ** 200 - 1),))

    def test_rows_that_cannot_go_on(self):
        for text, place in (
                ("", 0), ("(", 1), ("()", 1), ("( 1)", 1), ("(1", 2), ("(1 ", 3), ("(1 )", 3), ("(1  2)", 3),
                ("(1,2)", 2), ("1 2", 0), ("(1) ", 3), ("(1)(2)", 3), ("(1 2 3 4 5)", 8), ("(1 2 3 4 ", 8),
                ("(1 2 3 4", 8), ("(-)", 2), ("(1/1)", 4), ("(2/4 x", 4), ("(1 0/2 x)", 6), ("(00)", 2), ("[1]", 0)):
            self.fails(read_row, text, place)
        self.assertEqual(read_row("(1 2 3 4)"), row(1, 2, 3, 4))

    def test_rooms_that_cannot_go_on(self):
        for text, place in (
                ("", 0), ("[", 1), ("[]", 1), ("[0]", 2), ("[0 ", 3), ("[0 4", 4), ("[0 4] ", 6), ("[0 4][0 4]", 5),
                ("[4 0]", 5), ("[4 4]", 5), ("[4 0", 4), ("[4 0 ", 4), ("[4 0] [", 5), ("[1/2 1/2]", 9),
                ("[0 4]  [0 4]", 6), ("[0 4 5]", 4), ("[0 2/4]", 6), ("[0/1 4]", 4), ("[-0 4]", 2), ("[0 04]", 4),
                ("[0 1] [0 1] [0 1] [0 1] [0 1]", 23), ("[0 1] [0 1] [0 1] [0 1] ", 23), ("[0 1] [1 0] [0 1]", 11),
                ("[0,4]", 2), ("(0 4)", 0)):
            self.fails(read_room, text, place)
        self.assertEqual(len(read_room("[0 1] [0 1] [0 1] [0 1]")), 4)

    def test_plans_that_cannot_go_on(self):
        for text, place in (
                (" ", 0), ("(", 1), ("()", 1), ("()*", 1), ("(0", 2), ("(0)", 2), ("(0:", 3), ("(0:)", 3), ("(0:1", 4),
                ("(0:1)", 5), ("(0:1) ", 5), ("(-1:1)*", 1), ("(0:-1)*", 3), ("(00:1)*", 2), ("(0:01)*", 4),
                ("(0:1 )*", 5), ("(0:1  1:1)*", 5), ("(0:1)*0", 7), ("(0:1)*00", 7), ("(0:1)*01", 7), ("(0:1)*-1", 6),
                ("(0:1)*1 ", 8), ("(0:1)* ", 6), ("(0:1)* (0:1)*", 6), ("(0:0)*", 6), ("(0:0 1:0)*", 10),
                ("(0:0)* (", 6), ("(0:1)*1(0:1)*", 7), ("(0:1)*1  (", 8), ("(0:1/1)*", 6), ("(0:2/4)*", 6),
                ("(0:0/3)*", 6), ("(0:1/0)*", 6), ("(0:1/-2)*", 5), ("(0:1)*x", 6), ("(0:1)x", 5), ("(0:1)*1x", 7),
                ("(0.1)", 2), ("(0:1)*1 (0:0)*", 14), ("(0:1)*1 (0:1)*0 x", 15), ("0:1", 0)):
            self.fails(read_plan, text, place)
        self.assertEqual(read_plan("(0:0)*1"), ((((0, (0, 1)),), 1),))
        self.assertEqual(read_plan("(0:0 12:1/3)*"), ((((0, (0, 1)), (12, (1, 3))), None),))
        self.assertEqual(len(read_plan(" ".join(["(0:1)*7"] * 250))), 250)

    def test_changed_texts(self):
        rng = rng_for(2)
        signs = "0012349/-()[]: **x\n"
        texts = {
            read_fraction: lambda: fraction_text(random_pair(rng, rng.choice([3, 99]))),
            read_row: lambda: row_text(random_row(rng, rng.randint(1, 4), 9)),
            read_room: lambda: room_text(random_room(rng, rng.randint(1, 4), 9)),
            read_plan: lambda: plan_text(random_plan(rng, 9)),
        }
        for read, make in texts.items():
            for _ in range(1500):
                text = make()
                for _ in range(rng.randint(1, 2)):
                    at = rng.randrange(len(text) + 1)
                    deed = rng.random()
                    if deed < 0.4:
                        text = text[:at] + rng.choice(signs) + text[at:]
                    elif deed < 0.7:
                        text = text[:at] + rng.choice(signs) + text[at + 1:]
                    elif deed < 0.9:
                        text = text[:at] + text[at + 1:]
                    else:
                        text = text[:at]
                self.assertEqual(place_of(read, text), own_place(read, text), (read.__name__, text))

    def test_what_is_read_is_written_alike(self):
        writers = {read_fraction: fraction_text, read_row: row_text, read_room: room_text, read_plan: plan_text}
        rng = rng_for(3)
        for read, write in writers.items():
            for _ in range(3000):
                text = "".join(rng.choice("012/-() [:]*") for _ in range(rng.randint(0, 9)))
                if place_of(read, text) is None:
                    self.assertEqual(write(read(text)), text)


if __name__ == "__main__":
    unittest.main()
