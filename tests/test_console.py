import unittest

from ledlevels.console import Console
from ledlevels.deeds import deed_text, plant_text
from ledlevels.errors import LevelError, Missing
from ledlevels.house import House
from ledlevels.texts import row_text
from tests.helping import ANY_VALUES, real, rng_for, row
from tests.test_deeds import random_deed
from tests.test_house import picture, some_question

LINE = (((0, 1), (4, 1)),)


def question_text(question):
    """The line that asks a question."""
    word, name, *more = question
    if more:
        more = [".".join(str(k) for k in more[0])] + [row_text(place) for place in more[1:]]
    return " ".join([word, name] + more)


def first_word(question, answer):
    if question[0] != "margin":
        return answer[0]
    return "none" if answer is None else str(real(answer[0]))


class Second:
    """A second house to which the same is done: each call tells the answer of a line."""

    def __init__(self):
        self.house = House()

    def answer(self, word, *given):
        try:
            return self.told(word, *given)
        except (LevelError, Missing):
            return "refused"

    def told(self, word, *given):
        house = self.house
        if word in ("do", "undo", "redo", "branch", "go", "merge"):
            getattr(house, word)(*given)
            return str(house.number())
        if word == "show":
            if not given:
                return " ".join(sorted(house.state()))
            return plant_text(house.state()[given[0]]) if given[0] in house.state() else "refused"
        if word == "today":
            fault = house.today(*given)
            return "right" if fault is None else fault[0]
        return first_word(given[-1], getattr(house, word)(*given))


def line_of(word, *given):
    """The line that says what a call of the second house does."""
    if word == "do":
        return deed_text(*given)
    if word == "ask":
        return question_text(*given)
    if word == "keep":
        return "keep " + given[0] + " " + question_text(given[1])
    return " ".join((word,) + given)


class Lines(unittest.TestCase):
    def filled(self):
        console = Console()
        for line in ("room a [0 4]", "turn a 1 (1) (2)", "turn a 1/2 (-1)", "room e [0 1] [0 1]"):
            console.say(line)
        return console

    def test_examples(self):
        console = Console()
        self.assertEqual(
            [console.say("room a [0 4]"), console.say("turn a 1 (1) (-1)"), console.say("show a"),
             console.say("kept a 0 (1)"),
             console.say("keep p held a")],
            ["1", "2", "[0 4]; 1 (1) (-1)", "out", "driven"])
        self.assertEqual(
            [console.say("turn a 0 (0)"), console.say("held a"), console.say("today p"), console.say("margin a"),
             console.say("kept a 0.0 (5)"), console.say("stay")],
            ["3", "held", "form", "0", "refused", "what"])

    def test_the_house_is_its_own_and_always_the_same(self):
        one, other = Console(), Console()
        self.assertIsInstance(one.house(), House)
        self.assertIs(one.house(), one.house())
        self.assertIsNot(one.house(), other.house())
        one.say("room a [0 4]")
        self.assertEqual([one.house().number(), other.house().number()], [1, 0])
        one.house().do(("room", "b", LINE))
        self.assertEqual(one.say("show"), "a b")

    def test_each_line(self):
        console = self.filled()
        for line, answer in [
                ("show", "a e"), ("show e", "[0 1] [0 1]"), ("show a", "[0 4]; 1 (1) (2); 1/2 (-1)"),
                ("show x", "refused"),
                ("corner a 1 (-3)", "5"), ("cost a 0 -7/2", "6"), ("drop a 1", "7"), ("put a a", "8"), ("undo", "7"),
                ("undo", "6"),
                ("redo", "7"), ("undo", "6"), ("branch side", "6"), ("redo", "7"), ("redo", "8"), ("redo", "refused"),
                ("undo", "7"), ("go side", "6"), ("redo", "refused"),
                ("away e", "9"), ("go main", "7"), ("merge side", "10"), ("merge side", "refused"), ("show", "a"),
                ("undo", "7"),
                ("go side", "9"), ("held a", "held"), ("margin a", "1"), ("kept a 1.1 (4)", "kept"),
                ("way a 0.0 (0) (7/2)", "way"),
                ("way a 0.0 (0) (9/2)", "refused"), ("kept a 2.0 (0)", "refused"), ("kept a 0 (0)", "refused"),
                ("keep p held a", "held"), ("keep p margin a", "refused"), ("keep q margin a", "1"),
                ("keep r kept a 1.1 (4)", "kept"),
                ("keep s way a 0.0 (0) (7/2)", "way"), ("today p", "right"), ("today q", "right"),
                ("today z", "refused"),
                ("turn a 0 (1)", "11"), ("today p", "form"), ("today q", "form"), ("today r", "gone"),
                ("today s", "gone"),
                ("drop a 1", "12"), ("held a", "driven"), ("margin a", "none"), ("today p", "form"),
                ("kept a 1.0 (4)", "out"),
                ("way a 0.0 (4) (0)", "fall"), ("keep t margin a", "none"), ("today t", "right"),
                ("go nosuch", "refused"),
                ("branch main", "refused"), ("merge nosuch", "refused"), ("held nosuch", "refused"),
                ("margin nosuch", "refused"),
                ("away nosuch", "refused"), ("drop a 9", "refused"), ("show abcdefgh", "refused"),
                ("keep u held nosuch", "refused")]:
            self.assertEqual(console.say(line), answer, line)

    def test_an_empty_house(self):
        console = Console()
        for line, answer in [("show", ""), ("undo", "refused"), ("redo", "refused"), ("merge main", "refused"),
                             ("go main", "0"),
                             ("branch x", "0"), ("held a", "refused"), ("show a", "refused"), ("today a", "refused"),
                             ("", "what")]:
            self.assertEqual(console.say(line), answer, line)

    def test_the_margin_as_written(self):
        console = Console()
        for line in ("room a [0 4]", "turn a 0 (1/3)", "turn a 0 (-5/7)"):
            console.say(line)
        self.assertEqual([console.say("margin a"), console.say("keep m margin a")], ["1/3", "1/3"])

    def test_against_a_second_house(self):
        rng = rng_for(1)
        told = []
        for n in range(120):
            console, second = Console(), Second()
            names = [["a"], ["a", "bb"], ["a", "b", "dddddddd"], list("abcdefghijklm")][n % 4]
            for _ in range(100):
                kind = rng.random()
                state = second.house.state()
                if kind < 0.4:
                    call = ("do", random_deed(rng, names, 1, 2))
                elif kind < 0.65:
                    word = rng.choice(["undo", "redo", "branch", "go", "merge", "merge"])
                    call = (word,) if word in ("undo", "redo") else (word,
                                                                     rng.choice(["main", "x", "y", "z", "u", "v", "w"]))
                elif kind < 0.75:
                    call = rng.choice([("show",), ("show", rng.choice(names))])
                elif kind < 0.9:
                    question, label = some_question(rng, state, names), rng.choice(list("pqrstuvwx"))
                    call = rng.choice([("ask", question), ("keep", label, question)])
                else:
                    call = ("today", rng.choice(list("pqrstuvwx")))
                answer = second.answer(*call)
                self.assertEqual(console.say(line_of(*call)), answer, call)
                told.append(call[0] if answer != "refused" else "refused")
                if answer == "refused":
                    self.assertEqual(console.house().number(), second.house.number())
            self.assertEqual(picture(console.house()), picture(second.house))
        for word in ("do", "undo", "redo", "branch", "go", "merge", "show", "ask", "keep", "today", "refused"):
            self.assertGreater(told.count(word), 20, word)

    def test_lines_of_none(self):
        console = self.filled()
        console.say("keep p held a")
        seen = picture(console.house())
        for line in [
                "", " ", "what", "undo ", " undo", "undo 1", "undo a", "redo ", "Undo", "UNDO", "redo redo", "show ",
                " show", "show  a", "show a ",
                "show a b", "show A", "show abcdefghi", "show 1", "branch", "branch ", "branch A", "branch a b",
                "branch  a", "branch a ",
                "branch abcdefghi", "branch a1", "go", "go ", "go main ", "go Main", "go 1", "go main main", "merge",
                "merge ", "merge a b",
                "merge 0", "held", "held ", "held a ", " held a", "held  a", "held A", "held a a", "held a 0",
                "margin", "margin a ", "margin  a",
                "margin A", "margin a 0", "kept", "kept a", "kept a ", "kept a 0.0", "kept a 0.0 ", "kept a 0.0 (1) ",
                "kept a 0.0  (1)",
                "kept  a 0.0 (1)", "kept a  0.0 (1)", "kept a 0.0 (1) (1)", "kept a 0.0 1", "kept a 00.0 (1)",
                "kept a 0.00 (1)",
                "kept a 01.0 (1)", "kept a .0 (1)", "kept a 0. (1)", "kept a . (1)", "kept a  (1)", "kept a 0..0 (1)",
                "kept a 0,0 (1)",
                "kept a -1.0 (1)", "kept a 0.-1 (1)", "kept a +0.0 (1)", "kept a 0.1234567890 (1)", "kept a x (1)",
                "kept a 0.x (1)",
                "kept a 0.0 ()", "kept a 0.0 (1", "kept a 0.0 1)", "kept a 0.0 (1  1)", "kept a 0.0 (2/2)",
                "kept a 0.0 (2/4)", "kept a 0.0 (-0)",
                "kept a 0.0 (01)", "kept a 0.0 (1 1 1 1 1)", "kept a 0.0 (1/0)", "kept A 0.0 (1)", "kept a 0.0 [1]",
                "kept (1) 0.0",
                "kept a 0 .0 (1)", "kept a 0.0(1)", "way", "way a 0.0 (1)", "way a 0.0 (1) ", "way a 0.0 (1)(2)",
                "way a 0.0 (1)  (2)",
                "way a 0.0 (1) (2) ", "way a 0.0 (1) (2) (3)", "way a (1) (2)", "way a 0.0", "way A 0.0 (1) (2)",
                "way a 0.0 (1) 2",
                "keep", "keep ", "keep q", "keep q ", "keep q held", "keep q held ", "keep q  held a",
                "keep  q held a", "keep Q held a",
                "keep abcdefghi held a", "keep q show", "keep q show a", "keep q undo", "keep q today p",
                "keep q keep r held a",
                "keep q room b [0 1]", "keep q kept a 0.0", "keep q held a ", "keep p held", "keep held a",
                "keep q way a 0.0 (1)", "today",
                "today ", "today p ", "today P", "today  p", "today p p", "today 1", "room a [4 0]",
                "turn a 1 (1) (1)", "drop a 00", "away",
                "away A", "put a", "cost a 0", "corner a 0", "drop a 1000000000", "do room b [0 1]", "ask held a",
                "number", "state",
                "show\ta", "show\n", "undo\n", "labels", "branches", "present", "common 0 0", "paper p", "go main\n",
                "\n", "~"]:
            self.assertEqual(console.say(line), "what", line)
        self.assertEqual(picture(console.house()), seen)

    def test_figures(self):
        console = self.filled()
        for line, answer in [("kept a 0.123456789 (1)", "refused"), ("kept a 0.1234567890 (1)", "what"),
                             ("drop a 999999999", "refused"),
                             ("drop a 9999999999", "what"), ("kept a 0.0.0.0.0.0.0 (1)", "refused"),
                             ("kept a 10.0 (1)", "refused"),
                             ("kept a 0.0 (" + "9" * 200 + ")", "refused"), ("kept a 0.0 (1 1)", "refused"),
                             ("kept a 0.0 (1 1 1 1)", "refused"),
                             ("kept e 0 (1/2 1/2)", "refused"), ("held e", "refused"), ("margin e", "refused"),
                             ("kept a 0.0 (-1/2)", "refused")]:
            self.assertEqual(console.say(line), answer, line)

    def test_a_blank_more_or_less(self):
        lines = ["room b [0 4] [0 1]", "turn a 1 (1) (3)", "corner a 0 (5)", "drop a 0", "cost a 0 1/2", "put a a",
                 "away a", "undo", "redo",
                 "branch x", "go main", "merge main", "show", "show a", "held a", "margin a", "kept a 0.0 (1)",
                 "way a 0.0 (1) (2)",
                 "keep q held a", "keep q way a 0.0 (1) (2)", "today p"]
        for line in lines:
            for at in range(len(line) + 1):
                others = [line[:at] + " " + line[at:]]
                if line[at:at + 1] == " ":
                    others.append(line[:at] + line[at + 1:])
                for other in others:
                    console = self.filled()
                    console.say("keep p held a")
                    seen = picture(console.house())
                    if other in ("showa",) or console.say(other) == "what":
                        self.assertEqual(picture(console.house()), seen)
                        continue
                    # A name may be cut in two, or two put together; all else is none.
                    self.assertNotIn("  ", other)
                    self.assertEqual(other, other.strip())
                    self.assertIn(other.split(" ")[0], [one.split(" ")[0] for one in lines])

    def test_any_values(self):
        console = self.filled()
        seen = picture(console.house())
        for value in ANY_VALUES + [b"show", ["show"], ("show",), {"show": 1}, 1.5]:
            self.assertEqual(console.say(value), "what")
        self.assertEqual(picture(console.house()), seen)

    def test_a_line_that_is_refused_changes_nothing(self):
        console = self.filled()
        for line in ("branch x", "go x", "cost a 0 9", "go main", "cost a 0 8", "room b [0 1]", "undo",
                     "keep p held a"):
            console.say(line)
        seen = picture(console.house())
        for line in ("merge x", "merge z", "branch x", "go z", "away z", "turn a 0 (1 1)", "corner a 0 (1)",
                     "corner a 9 (1)", "room a [0 1] [0 1]",
                     "put a e", "keep p held a", "keep q held z", "held z", "show z", "today z", "drop e 0",
                     "cost e 0 1", "kept a 0.0 (5)"):
            self.assertEqual(console.say(line), "refused", line)
            self.assertEqual(picture(console.house()), seen)
        self.assertEqual(console.say("redo"), "7")

    def test_long_lines(self):
        console = Console()
        self.assertEqual(console.say("room a [" + "1" * 199 + " " + "9" * 200 + "]"), "1")
        self.assertEqual(console.say("turn a " + "7" * 200 + " (" + "1" * 200 + "/" + "2" * 199 + "3) (-" + "5" * 200 + ")"), "2")
        self.assertEqual(console.say("kept a " + ".".join("0" for _ in range(900)) + " (1)"), "refused")
        self.assertEqual(console.say("a" * 2000), "what")
        self.assertEqual(console.say("keep " * 400), "what")


if __name__ == "__main__":
    unittest.main()
