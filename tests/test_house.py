import unittest

from ledlevels.errors import BadDeed, BadName, Clash, LevelError, Missing, NoMoment, NothingDone, TooMany, UnknownName
from ledlevels.held import held, judge_held
from ledlevels.house import House
from ledlevels.kept import judge_kept, kept
from ledlevels.margins import judge_margin, margin
from ledlevels.ways import judge_way, way
from tests.helping import ANY_VALUES, are_pairs, changed, real, rng_for, row
from tests.test_deeds import own_behind, own_name, outcome, random_deed
from tests.walking import random_place

ZERO, ONE, LESS, FOUR = (0, 1), (1, 1), (-1, 1), (4, 1)
LINE = ((ZERO, FOUR),)
UP, DOWN = row(1), row(-1)
WORDS = {"held": 1, "margin": 1, "kept": 3, "way": 4}


class Own:
    """A house of the tests' own: each call tells what is returned, or the error that is due."""

    def __init__(self):
        self.states, self.older = [{}], [()]
        self.at, self.undone, self.now, self.kept = {"main": 0}, {"main": []}, "main", {}

    def new(self, state, elders):
        if len(self.states) == 200:
            return ("TooMany",)
        self.states.append(state)
        self.older.append(elders)
        self.at[self.now], self.undone[self.now] = len(self.states) - 1, []
        return len(self.states) - 1

    def do(self, deed):
        state = own_behind(self.states[self.at[self.now]], deed)
        return state if type(state) is tuple else self.new(state, (self.at[self.now],))

    def undo(self):
        here = self.at[self.now]
        if not self.older[here]:
            return ("NothingDone",)
        self.undone[self.now].append(here)
        self.at[self.now] = self.older[here][0]
        return self.at[self.now]

    def redo(self):
        if not self.undone[self.now]:
            return ("NothingDone",)
        self.at[self.now] = self.undone[self.now].pop()
        return self.at[self.now]

    def branch(self, name):
        if not own_name(name) or name in self.at:
            return ("BadName", name)
        if len(self.at) == 6:
            return ("TooMany",)
        self.at[name], self.undone[name] = self.at[self.now], []

    def go(self, name):
        if type(name) is not str or name not in self.at:
            return ("UnknownName", name)
        self.now = name
        return self.at[name]

    def behind(self, number):
        found = {number}
        for elder in self.older[number]:
            found |= self.behind(elder)
        return found

    def common(self, one, other):
        return max(self.behind(one) & self.behind(other))

    def merge(self, name):
        if type(name) is not str or name not in self.at:
            return ("UnknownName", name)
        base = self.common(self.at[name], self.at[self.now])
        if base == self.at[name]:
            return ("NothingDone",)
        old, mine, theirs = self.states[base], self.states[self.at[self.now]], self.states[self.at[name]]
        clash, state = [], dict(mine)
        for word in sorted({*old, *mine, *theirs}):
            a, b, c = old.get(word), mine.get(word), theirs.get(word)
            if a != c and a != b and b != c:
                clash.append(word)
            if a != c:
                state.pop(word, None)
                if c is not None:
                    state[word] = c
        if clash:
            return ("Clash", tuple(clash))
        if len(state) > 12:
            return ("TooMany",)
        return self.new(state, (self.at[self.now], self.at[name]))

    def plant(self, question):
        """The plant of a question, or the error that is due."""
        if type(question) is not tuple or not question or type(question[0]) is not str:
            return None, ("BadDeed",)
        if WORDS.get(question[0]) != len(question) - 1:
            return None, ("BadDeed",)
        name, state = question[1], self.states[self.at[self.now]]
        if not own_name(name):
            return None, ("BadName", name)
        if name not in state:
            return None, ("UnknownName", name)
        room, mill, _ = state[name]
        if not mill:
            return None, ("BadDeed",)
        if len(question) > 2:
            choice = question[2]
            if type(choice) is not tuple or len(choice) != len(mill):
                return None, ("BadDeed",)
            if not all(type(k) is int and 0 <= k < len(turn) for k, turn in zip(choice, mill)):
                return None, ("BadDeed",)
        for place in question[3:]:
            if not are_pairs(place, len(room)):
                return None, ("BadDeed",)
            if not all(real(low) <= real(x) <= real(high) for (low, high), x in zip(room, place)):
                return None, ("BadDeed",)
        return state[name], None

    def ask(self, question):
        plant, error = self.plant(question)
        if error is not None:
            return error
        room, mill, _ = plant
        rates = [turn[k] for turn, k in zip(mill, question[2])] if len(question) > 2 else None
        return {"held": lambda: held(mill), "margin": lambda: margin(mill),
                "kept": lambda: kept(room, rates, question[3]),
                "way": lambda: way(room, rates, *question[3:])}[question[0]]()

    def keep(self, label, question):
        if not own_name(label) or label in self.kept:
            return ("BadName", label)
        _, error = self.plant(question)
        if error is not None:
            return error
        if len(self.kept) == 8:
            return ("TooMany",)
        self.kept[label] = (question, self.ask(question), self.at[self.now])
        return self.ask(question)

    def paper(self, label):
        if type(label) is not str or label not in self.kept:
            return ("UnknownName", label)
        return self.kept[label]

    def today(self, label):
        if type(label) is not str or label not in self.kept:
            return ("UnknownName", label)
        question, answer, _ = self.kept[label]
        plant, error = self.plant(question)
        if error is not None:
            return ("gone",)
        room, mill, _ = plant
        rates = [turn[k] for turn, k in zip(mill, question[2])] if len(question) > 2 else None
        return {"held": lambda: judge_held(mill, answer), "margin": lambda: judge_margin(mill, answer),
                "kept": lambda: judge_kept(room, rates, question[3], answer),
                "way": lambda: judge_way(room, rates, *question[3:], answer)}[question[0]]()


def picture(house):
    """All that a house tells of itself."""
    many = 0
    while outcome(house.state_at, many) != ("NoMoment", many):
        many += 1
    return (house.number(), house.state(), house.present(), house.branches(), house.labels(),
            [(house.state_at(k), house.elders(k)) for k in range(many)],
            [house.paper(label) for label in house.labels()])


def own_picture(own):
    return (own.at[own.now], own.states[own.at[own.now]], own.now, list(own.at), sorted(own.kept),
            list(zip(own.states, own.older)), [own.kept[label] for label in sorted(own.kept)])


def built(*deeds):
    house = House()
    for deed in deeds:
        house.do(deed)
    return house


def some_question(rng, state, names):
    """A question that can often be asked."""
    name = rng.choice(names)
    word = rng.choice(list(WORDS))
    if name not in state or not state[name][1]:
        return (word, name) + ((0,), row(1), row(2))[:WORDS[word] - 1]
    room, mill, _ = state[name]
    choice = tuple(rng.randrange(len(turn)) for turn in mill)
    return ((word, name, choice) + tuple(random_place(rng, room, 0.3) for _ in range(2)))[:WORDS[word] + 1]


class Moments(unittest.TestCase):
    def test_examples(self):
        house = House()
        self.assertEqual(
            [house.do(("room", "a", ((ZERO, FOUR),))), house.do(("turn", "a", ((ONE,), (ZERO,)), ONE)),
             house.branch("side"),
             house.do(("turn", "a", ((LESS,),), ONE))],
            [1, 2, None, 3])
        self.assertEqual(
            [house.keep("p", ("held", "a"))[0], house.keep("q", ("kept", "a", (0, 0), (ONE,)))[0],
             house.ask(("held", "a"))[0],
             house.undo(), house.today("q"), house.redo()],
            ["held", "kept", "held", 2, ("gone",), 3])
        self.assertEqual(
            [house.go("side"), house.do(("cost", "a", 0, ZERO)), house.go("main"), house.common(3, 4), house.elders(4),
             house.state_at(1)],
            [2, 4, 3, 2, (2,), {"a": ((((0, 1), (4, 1)),), (), ())}])
        with self.assertRaises(Clash) as caught:
            house.merge("side")
        self.assertEqual(caught.exception.names, ("a",))
        self.assertEqual(
            [house.number(), house.present(), house.branches(), house.labels(), house.paper("q")[0]],
            [3, "main", ["main", "side"], ["p", "q"], ("kept", "a", (0, 0), ((1, 1),))])

    def test_the_beginning(self):
        house = House()
        self.assertEqual(picture(house), (0, {}, "main", ["main"], [], [({}, ())], []))
        for call in (house.undo, house.redo, lambda: house.merge("main")):
            with self.assertRaises(NothingDone):
                call()
        self.assertEqual(house.common(0, 0), 0)
        self.assertEqual(house.go("main"), 0)

    def test_houses_are_apart(self):
        one, other = House(), House()
        one.do(("room", "a", LINE))
        one.branch("x")
        self.assertEqual((other.number(), other.branches(), other.state()), (0, ["main"], {}))

    def test_numbers_of_any_values(self):
        house = built(("room", "a", LINE), ("room", "b", LINE))
        for value in ANY_VALUES + [3, -1, -3, 10 ** 150, "0", (0,), [0], 2.5]:
            if type(value) is int and 0 <= value <= 2:
                self.assertEqual(house.elders(value), ((), (0,), (1,))[value])
                self.assertEqual(len(house.state_at(value)), value)
                continue
            for call in (house.state_at, house.elders):
                with self.assertRaises(NoMoment) as caught:
                    call(value)
                self.assertEqual(repr(caught.exception.number), repr(value))

    def test_undo_and_redo_on_each_branch_by_itself(self):
        house = built(("room", "a", LINE), ("room", "b", LINE), ("room", "c", LINE))
        self.assertEqual([house.undo(), house.undo()], [2, 1])
        house.branch("x")
        house.go("x")
        with self.assertRaises(NothingDone):
            house.redo()
        self.assertEqual(house.undo(), 0)
        with self.assertRaises(NothingDone):
            house.undo()
        self.assertEqual(house.do(("room", "d", LINE)), 4)
        with self.assertRaises(NothingDone):
            house.redo()
        self.assertEqual([house.go("main"), house.redo(), house.redo()], [1, 2, 3])
        with self.assertRaises(NothingDone):
            house.redo()
        self.assertEqual([house.undo(), house.undo(), house.undo()], [2, 1, 0])
        with self.assertRaises(NothingDone):
            house.undo()
        self.assertEqual([house.redo(), house.undo(), house.redo(), house.redo()], [1, 0, 1, 2])
        self.assertEqual(house.state(), {"a": (LINE, (), ()), "b": (LINE, (), ())})
        self.assertEqual(house.elders(4), (0,))

    def test_do_empties_the_list_of_its_own_branch_alone(self):
        house = built(("room", "a", LINE), ("room", "b", LINE))
        house.undo()
        house.branch("x")
        house.go("x")
        house.undo()
        house.go("main")
        self.assertEqual(house.do(("room", "c", LINE)), 3)
        with self.assertRaises(NothingDone):
            house.redo()
        self.assertEqual([house.go("x"), house.redo()], [0, 1])
        house.undo()
        with self.assertRaises(BadDeed):
            house.do(("room", "c", None))
        self.assertEqual(house.redo(), 1)

    def test_merge_empties_the_list(self):
        house = built(("room", "a", LINE))
        house.branch("x")
        house.do(("room", "b", LINE))
        house.do(("room", "c", LINE))
        house.go("x")
        house.do(("room", "d", LINE))
        house.do(("room", "e", LINE))
        house.undo()
        self.assertEqual(house.merge("main"), 6)
        self.assertEqual(house.elders(6), (4, 3))
        with self.assertRaises(NothingDone):
            house.redo()
        self.assertEqual(sorted(house.state()), ["a", "b", "c", "d"])
        self.assertEqual([house.undo(), house.redo()], [4, 6])

    def test_undo_behind_a_merge_goes_to_the_first_elder(self):
        house = built(("room", "a", LINE))
        house.branch("x")
        house.do(("room", "b", LINE))
        house.go("x")
        house.do(("room", "c", LINE))
        house.go("main")
        self.assertEqual([house.merge("x"), house.elders(4), house.undo()], [4, (2, 3), 2])

    def test_branches(self):
        house = built(("room", "a", LINE))
        for name in ("x", "abcdefgh", "m", "y"):
            self.assertIsNone(house.branch(name))
        for name in ("", "A", "abcdefghi", "a b", "a1", None, 1, True, (), [], {}, ["x"], ("x",), "main", "x",
                     {"x": []}):
            with self.assertRaises(BadName) as caught:
                house.branch(name)
            self.assertEqual(repr(caught.exception.name), repr(name))
        house.branch("sixth")
        self.assertEqual(house.branches(), ["main", "x", "abcdefgh", "m", "y", "sixth"])
        for name, error in (("seven", TooMany), ("x", BadName), ("A", BadName), ([], BadName)):
            with self.assertRaises(error):
                house.branch(name)
        self.assertEqual(house.present(), "main")
        self.assertEqual(house.go("y"), 1)
        self.assertEqual(house.present(), "y")
        for name in ("seven", "", None, 0, [], {}, ["main"], ("main",), True, "Main"):
            for call in (house.go, house.merge):
                with self.assertRaises(UnknownName) as caught:
                    call(name)
                self.assertEqual(repr(caught.exception.name), repr(name))
        self.assertEqual(house.present(), "y")

    def test_what_is_told_is_new(self):
        house = built(("room", "a", LINE), ("turn", "a", (UP,), ONE), ("turn", "a", (DOWN,), ONE))
        house.keep("p", ("held", "a"))
        seen = picture(house)
        house.state().clear()
        house.state_at(1).clear()
        house.state()["b"] = None
        house.branches().append("x")
        house.labels().clear()
        house.ask(("held", "a"))[1].append(1)
        house.paper("p")[1][1].clear()
        house.keep("q", ("held", "a"))[1].clear()
        self.assertEqual(house.paper("q")[1], ("held", [row("1/2", "1/2")]))
        self.assertEqual(picture(house)[:4], seen[:4])
        self.assertEqual(house.paper("p"), (("held", "a"), ("held", [row("1/2", "1/2")]), 3))
        self.assertIsNot(house.paper("p")[1][1], house.paper("p")[1][1])
        self.assertIsNone(house.today("p"))
        self.assertIsNone(house.today("q"))

    def test_what_is_raised_leaves_the_house_as_it_was(self):
        house = built(("room", "a", LINE), ("turn", "a", (UP,), ONE))
        house.branch("x")
        house.do(("cost", "a", 0, ZERO))
        house.do(("room", "b", LINE))
        house.undo()
        house.go("x")
        house.do(("cost", "a", 0, FOUR))
        house.keep("p", ("held", "a"))
        seen = picture(house)
        calls = [lambda: house.do(None), lambda: house.do(("away", "z")), lambda: house.merge("main"),
                 lambda: house.merge("z"),
                 lambda: house.branch("x"), lambda: house.go("z"), lambda: house.redo(),
                 lambda: house.keep("p", ("held", "a")),
                 lambda: house.keep("q", ("held", "z")), lambda: house.ask(None), lambda: house.paper("z"),
                 lambda: house.today("z"), lambda: house.state_at(99)]
        for call in calls:
            with self.assertRaises((LevelError, Missing)):
                call()
            self.assertEqual(picture(house), seen)
        house.go("main")
        self.assertEqual(house.redo(), 4)


class Merges(unittest.TestCase):
    def sides(self, base, mine, theirs):
        """A house with a branch on which some deeds were done, and others on the present one."""
        house = built(*base)
        house.branch("x")
        house.go("x")
        for deed in theirs:
            house.do(deed)
        house.go("main")
        for deed in mine:
            house.do(deed)
        return house

    BASE = [("room", "a", LINE), ("turn", "a", (UP,), ONE), ("room", "b", LINE)]

    def test_one_side(self):
        house = self.sides(self.BASE, [("room", "c", LINE)],
                           [("cost", "a", 0, FOUR), ("away", "b"), ("room", "d", LINE)])
        number, other = house.number(), 6
        self.assertEqual(house.merge("x"), 8)
        self.assertEqual(house.elders(8), (number, other))
        self.assertEqual(house.state(), {"a": (LINE, ((UP,),), (FOUR,)), "c": (LINE, (), ()), "d": (LINE, (), ())})
        house.go("x")
        self.assertEqual(house.merge("main"), 9)
        self.assertEqual(house.state(), house.state_at(8))
        self.assertEqual(house.elders(9), (6, 8))

    def test_only_theirs_are_changed(self):
        house = self.sides(self.BASE, [], [("cost", "a", 0, FOUR)])
        self.assertEqual([house.merge("x"), house.elders(5), house.state() == house.state_at(4)], [5, (3, 4), True])

    def test_only_mine_are_changed(self):
        house = self.sides(self.BASE, [("cost", "a", 0, FOUR)], [])
        with self.assertRaises(NothingDone):
            house.merge("x")
        with self.assertRaises(NothingDone):
            house.merge("main")

    def test_both_alike(self):
        house = self.sides(self.BASE, [("cost", "a", 0, FOUR), ("away", "b"), ("room", "n", LINE)],
                           [("room", "n", LINE), ("away", "b"), ("cost", "a", 0, FOUR)])
        self.assertEqual(house.merge("x"), 10)
        self.assertEqual(house.state(), {"a": (LINE, ((UP,),), (FOUR,)), "n": (LINE, (), ())})

    def test_both_unlike(self):
        pairs = [([("cost", "a", 0, FOUR)], [("cost", "a", 0, ZERO)]), ([("away", "a")], [("cost", "a", 0, ZERO)]),
                 ([("cost", "a", 0, ZERO)], [("away", "a")]), ([("room", "n", LINE)], [("room", "n", ((LESS, ONE),))])]
        for mine, theirs in pairs:
            house = self.sides(self.BASE, mine, theirs)
            with self.assertRaises(Clash) as caught:
                house.merge("x")
            self.assertEqual(caught.exception.names, (mine[0][1],))
        house = self.sides(self.BASE, [("room", "n", LINE), ("away", "b"), ("cost", "a", 0, FOUR), ("room", "c", LINE)],
                           [("cost", "a", 0, ZERO), ("room", "b", ((LESS, ONE),)), ("room", "n", ((LESS, ONE),)),
                            ("room", "c", LINE)])
        with self.assertRaises(Clash) as caught:
            house.merge("x")
        self.assertEqual(caught.exception.names, ("a", "b", "n"))

    def test_changed_and_changed_back_is_not_changed(self):
        house = self.sides(self.BASE, [("cost", "a", 0, FOUR)], [("cost", "a", 0, ZERO), ("cost", "a", 0, ONE)])
        self.assertEqual(house.merge("x"), 7)
        self.assertEqual(house.state()["a"][2], (FOUR,))

    def test_an_earlier_branch_and_itself(self):
        house = self.sides(self.BASE, [("room", "c", LINE)], [])
        for name in ("main", "x"):
            with self.assertRaises(NothingDone):
                house.merge(name)
        house.undo()
        house.undo()
        self.assertEqual(house.merge("x"), 5)
        self.assertEqual(house.elders(5), (2, 3))

    def test_the_common_moment_behind_merges(self):
        house = self.sides(self.BASE, [("cost", "a", 0, FOUR)], [("room", "c", LINE)])
        self.assertEqual([house.common(4, 5), house.merge("x"), house.common(6, 4), house.common(4, 6)], [3, 6, 4, 4])
        house.go("x")
        house.do(("room", "e", LINE))
        house.go("main")
        house.do(("cost", "a", 0, ZERO))
        self.assertEqual([house.common(7, 8), house.merge("x"), sorted(house.state())], [4, 9, ["a", "b", "c", "e"]])
        house.go("x")
        self.assertEqual(house.merge("main"), 10)
        self.assertEqual(house.state()["a"][2], (ZERO,))

    def test_common(self):
        house = built(("room", "a", LINE), ("room", "b", LINE))
        house.undo()
        house.do(("room", "c", LINE))
        house.undo()
        house.undo()
        house.do(("room", "d", LINE))
        for one, other, told in ((2, 3, 1), (3, 2, 1), (2, 2, 2), (2, 1, 1), (0, 3, 0), (4, 3, 0), (4, 4, 4),
                                 (1, 3, 1)):
            self.assertEqual(house.common(one, other), told)

    def test_twelve_names(self):
        names = "abcdefghijkl"
        base = [("room", name, LINE) for name in names[:10]]
        house = self.sides(base, [("room", "k", LINE)], [("room", "l", LINE)])
        house.merge("x")
        self.assertEqual(len(house.state()), 12)
        house = self.sides(base, [("room", "k", LINE)], [("room", "l", LINE), ("room", "m", LINE)])
        with self.assertRaises(TooMany):
            house.merge("x")
        house.do(("away", "a"))
        house.merge("x")
        self.assertEqual(len(house.state()), 12)
        house = self.sides(base, [("room", "k", LINE), ("room", "n", LINE)],
                           [("room", "l", LINE), ("room", "k", ((LESS, ONE),)), ("away", "b")])
        with self.assertRaises(Clash):
            house.merge("x")
        house = self.sides(base, [("room", "k", LINE), ("room", "n", LINE)], [("room", "l", LINE), ("away", "b")])
        house.merge("x")
        self.assertEqual("".join(sorted(house.state())), "acdefghijkln")

    def test_two_hundred_moments(self):
        house = built(("room", "a", LINE), ("turn", "a", (UP,), ONE))
        house.branch("x")
        house.branch("y")
        house.go("x")
        house.do(("cost", "a", 0, ZERO))
        house.go("y")
        house.do(("room", "b", LINE))
        house.go("main")
        for k in range(195):
            self.assertEqual(house.do(("cost", "a", 0, (k, 1))), k + 5)
        self.assertEqual(house.number(), 199)
        seen = picture(house)
        self.assertEqual(len(seen[5]), 200)
        for deed, error in ((("cost", "a", 0, ONE), TooMany), (("cost", "a", 1, ONE), BadDeed),
                            (("away", "A"), BadName),
                            (("away", "x"), UnknownName), (None, BadDeed), (("away", "a"), TooMany)):
            with self.assertRaises(error):
                house.do(deed)
        for name, error in (("x", Clash), ("y", TooMany), ("z", UnknownName), ("main", NothingDone)):
            with self.assertRaises(error):
                house.merge(name)
        self.assertEqual(picture(house), seen)
        self.assertEqual([house.undo(), house.redo(), house.common(199, 3), house.common(150, 199)], [198, 199, 2, 150])
        house.undo()
        with self.assertRaises(TooMany):
            house.do(("cost", "a", 0, ONE))
        self.assertEqual(house.redo(), 199)


class Asks(unittest.TestCase):
    def house(self):
        return built(("room", "a", LINE), ("turn", "a", (UP, row(2)), ONE), ("turn", "a", (DOWN,), ONE),
                     ("room", "e", LINE),
                     ("room", "b", LINE * 2), ("turn", "b", (row(2, -1),), ONE), ("turn", "b", (row(-1, 2),), ONE))

    def test_each_question(self):
        house = self.house()
        room, mill, _ = house.state()["a"]
        self.assertEqual(house.ask(("held", "a")), held(mill))
        self.assertEqual(house.ask(("held", "b")), held(house.state()["b"][1]))
        self.assertEqual(house.ask(("margin", "a")), margin(mill))
        self.assertEqual(house.ask(("margin", "b")), None)
        for choice, rates in (((0, 0), [UP, DOWN]), ((1, 0), [row(2), DOWN])):
            for place in (row(0), row(1), row(4)):
                self.assertEqual(house.ask(("kept", "a", choice, place)), kept(room, rates, place))
                self.assertEqual(house.ask(("way", "a", choice, place, row(3))), way(room, rates, place, row(3)))
        self.assertEqual(house.ask(("way", "b", (0, 0), row(0, 0), row(1, 1)))[0], "fall")
        self.assertEqual(house.ask(("kept", "b", (0, 0), row(1, 1)))[0], "out")

    def test_each_error(self):
        house = self.house()
        own = Own()
        for k in range(1, 8):
            own.new(house.state_at(k), (k - 1,))
        cases = [
            (None, ("BadDeed",)), ((), ("BadDeed",)), (["held", "a"], ("BadDeed",)), (("held",), ("BadDeed",)),
            (("held", "a", 0), ("BadDeed",)), (("hold", "a"), ("BadDeed",)), (([], "a"), ("BadDeed",)),
            ((None, "a"), ("BadDeed",)),
            (("kept", "a", (0, 0)), ("BadDeed",)), (("kept", "a", (0, 0), row(1), row(1)), ("BadDeed",)),
            (("way", "a", (0, 0), row(1)), ("BadDeed",)), (("margin", "a", ()), ("BadDeed",)),
            (({}, "a"), ("BadDeed",)),
            (("held", "A"), ("BadName", "A")), (("held", None), ("BadName", None)), (("held", []), ("BadName", [])),
            (("held", ("a", [])), ("BadName", ("a", []))), (("margin", True), ("BadName", True)),
            (("held", ""), ("BadName", "")),
            (("kept", "A", None, None), ("BadName", "A")), (("held", "x"), ("UnknownName", "x")),
            (("kept", "x", None, None), ("UnknownName", "x")), (("way", "x", 1, 2, 3), ("UnknownName", "x")),
            (("held", "e"), ("BadDeed",)), (("margin", "e"), ("BadDeed",)), (("kept", "e", (), row(1)), ("BadDeed",)),
            (("kept", "a", (0,), row(1)), ("BadDeed",)), (("kept", "a", (0, 0, 0), row(1)), ("BadDeed",)),
            (("kept", "a", (2, 0), row(1)), ("BadDeed",)), (("kept", "a", (-1, 0), row(1)), ("BadDeed",)),
            (("kept", "a", (True, 0), row(1)), ("BadDeed",)), (("kept", "a", [0, 0], row(1)), ("BadDeed",)),
            (("kept", "a", (0, 0), row(5)), ("BadDeed",)), (("kept", "a", (0, 0), row(-1)), ("BadDeed",)),
            (("kept", "a", (0, 0), row(1, 1)), ("BadDeed",)), (("kept", "a", (0, 0), list(row(1))), ("BadDeed",)),
            (("kept", "a", (0, 0), ((True, 1),)), ("BadDeed",)), (("kept", "a", (0, 0), ((2, 2),)), ("BadDeed",)),
            (("way", "a", (0, 0), row(1), row(5)), ("BadDeed",)), (("way", "a", (0, 0), row(5), row(1)), ("BadDeed",)),
            (("way", "a", (0, 0), row(1), None), ("BadDeed",)), (("way", "a", (0, 1), row(1), row(1)), ("BadDeed",)),
            (("kept", "a", (0, "0"), row(1)), ("BadDeed",)), (("kept", "a", (0, 0), "1"), ("BadDeed",)),
        ]
        for question, told in cases:
            self.assertEqual(repr(outcome(house.ask, question)), repr(told), question)
            self.assertEqual(repr(own.ask(question)), repr(told), question)
            self.assertEqual(repr(outcome(house.keep, "p", question)), repr(told), question)
        self.assertEqual(house.labels(), [])
        rng = rng_for(1)
        told = []
        for _ in range(300):
            question = changed(some_question(rng, house.state(), ["a", "b", "e", "x"]), rng)
            wanted = own.ask(question)
            self.assertEqual(repr(outcome(house.ask, question)), repr(wanted), question)
            told.append(wanted[0] if type(wanted) is tuple else None)
        for word in ("BadDeed", "BadName", "UnknownName"):
            self.assertGreater(told.count(word), 10)
        for value in ANY_VALUES:
            self.assertEqual(outcome(house.ask, value), ("BadDeed",))
            for question in (("held", value), ("kept", "a", value, row(1)), ("kept", "a", (0, 0), value),
                             ("way", "a", (0, 0), row(1), value), (value, "a")):
                self.assertEqual(repr(outcome(house.ask, question)), repr(own.ask(question)))

    def test_papers(self):
        house = self.house()
        self.assertEqual(house.keep("q", ("margin", "a")), house.ask(("margin", "a")))
        self.assertEqual(house.keep("b", ("kept", "a", (1, 0), row(4)))[0], "kept")
        house.do(("room", "z", LINE))
        self.assertEqual(house.keep("m", ("margin", "b")), None)
        self.assertEqual(house.labels(), ["b", "m", "q"])
        self.assertEqual(house.paper("q"), (("margin", "a"), margin(house.state()["a"][1]), 7))
        self.assertEqual(house.paper("m"), (("margin", "b"), None, 8))
        for label in ("x", "", None, [], {}, 0, ("q",), True):
            for call in (house.paper, house.today):
                with self.assertRaises(UnknownName) as caught:
                    call(label)
                self.assertEqual(repr(caught.exception.name), repr(label))
        for label in ("q", "Q", "", None, [], {"a": []}, 1, "abcdefghi", ("q",)):
            for question in (("margin", "a"), None):
                with self.assertRaises(BadName) as caught:
                    house.keep(label, question)
                self.assertEqual(repr(caught.exception.name), repr(label))
        self.assertEqual(house.keep("main", ("held", "a"))[0], "held")

    def test_eight_papers(self):
        house = self.house()
        for label in "abcdefgh":
            house.keep(label, ("held", "a"))
        for label, question, error in (("i", ("held", "a"), TooMany), ("i", ("held", "x"), UnknownName),
                                       ("i", None, BadDeed),
                                       ("i", ("held", "A"), BadName), ("a", ("held", "a"), BadName),
                                       ("I", None, BadName)):
            with self.assertRaises(error):
                house.keep(label, question)
        self.assertEqual(house.labels(), list("abcdefgh"))

    def test_today(self):
        house = self.house()
        house.keep("held", ("held", "a"))
        house.keep("margin", ("margin", "a"))
        house.keep("kept", ("kept", "a", (1, 0), row(1)))
        house.keep("way", ("way", "a", (1, 0), row(1), row(3)))
        house.keep("none", ("margin", "b"))
        house.keep("fall", ("way", "b", (0, 0), row(0, 0), row(1, 1)))
        labels = house.labels()
        papers = {label: house.paper(label) for label in labels}

        def now():
            return {label: house.today(label) for label in labels if house.today(label) is not None}

        self.assertEqual(now(), {})
        house.do(("cost", "a", 0, FOUR))
        house.do(("room", "a", ((LESS, (5, 1)),)))
        self.assertEqual(now(), {})
        house.do(("corner", "a", 1, row(-3)))
        self.assertEqual(now(), {"held": ("form",)})
        house.undo()
        house.do(("drop", "a", 1))
        self.assertEqual(now(), {"held": ("form",), "margin": ("form",), "kept": ("gone",), "way": ("gone",)})
        house.do(("turn", "a", (row("-1/2"),), ONE))
        self.assertEqual(sorted(now()), ["held", "kept", "margin", "way"])
        self.assertEqual(now()["held"], ("rates", 0))
        self.assertEqual(now()["margin"], ("bears",))
        self.assertEqual(now()["way"][0], "out")
        self.assertEqual(now()["kept"][0], "leaves")
        house.do(("room", "a", ((ZERO, ONE),)))
        self.assertEqual([now()["kept"][0], now()["way"], now()["held"]], ["leaves", ("gone",), ("rates", 0)])
        house.do(("away", "a"))
        self.assertEqual(now(), dict.fromkeys(["held", "kept", "margin", "way"], ("gone",)))
        house.do(("drop", "b", 0))
        house.do(("drop", "b", 0))
        self.assertEqual([house.today("none"), house.today("fall")], [("gone",), ("gone",)])
        house.do(("turn", "b", (row(0, 0),), ONE))
        self.assertEqual([house.today("none"), house.today("fall")], [("held",), ("gone",)])
        self.assertEqual({label: house.paper(label) for label in labels}, papers)
        while house.number() != 7:
            house.undo()
        self.assertEqual(now(), {})


class AgainstAnother(unittest.TestCase):
    def test_many_calls(self):
        rng = rng_for(2)
        told = []
        for n in range(150):
            house, own = House(), Own()
            names = [["a"], ["a", "b"], ["a", "b", "c", "d"], list("abcdefghijklm")][n % 4]
            branches = ["main", "x", "y", "z", "u", "v", "w", "A", None, []]
            for _ in range(150):
                kind = rng.random()
                if kind < 0.4:
                    deed = random_deed(rng, names, 1, 2)
                    if rng.random() < 0.1:
                        deed = changed(deed, rng)
                    word, given = "do", (deed,)
                elif kind < 0.8:
                    word = rng.choice(["undo", "redo", "branch", "go", "merge", "merge", "go"])
                    given = () if word in ("undo", "redo") else (rng.choice(branches[:rng.choice([3, 7, 10])]),)
                else:
                    question = some_question(rng, house.state(), names)
                    word = rng.choice(["ask", "keep", "today", "paper"])
                    label = rng.choice(["p", "q", "r", "s", "t", "P", [], None] + list("abcde"))
                    given = {"ask": (question,), "keep": (label, question)}.get(word, (label,))
                wanted = getattr(own, word)(*given)
                self.assertEqual(repr(outcome(getattr(house, word), *given)), repr(wanted), (word, given))
                told.append(wanted[0] if type(wanted) is tuple else word)
            self.assertEqual(picture(house), own_picture(own))
        for word in ("do", "undo", "redo", "branch", "go", "merge", "Clash", "NothingDone", "TooMany", "BadName",
                     "UnknownName",
                     "BadDeed", "held", "kept", "gone"):
            self.assertGreater(told.count(word), 5, word)


if __name__ == "__main__":
    unittest.main()
