import unittest
from fractions import Fraction

from ledlevels.deeds import behind, deed_text, is_plant, plant_text, read_deed
from ledlevels.errors import BadDeed, BadName, BadText, LevelError, Missing, UnknownName
from ledlevels.texts import fraction_text, room_text, row_text
from tests.helping import ANY_VALUES, GREAT, are_pairs, changed, is_pair, random_pair, random_row, rng_for, row
from tests.walking import random_room

ZERO, ONE, LESS, FOUR = (0, 1), (1, 1), (-1, 1), (4, 1)
LINE = ((ZERO, FOUR),)
FIRST = {"a": (LINE, (((ONE,), (LESS,)),), ((1, 2),))}
PARTS = {"room": 2, "turn": 3, "corner": 3, "drop": 2, "cost": 3, "put": 2, "away": 1}


def own_name(value):
    return type(value) is str and 1 <= len(value) <= 8 and all("a" <= c <= "z" for c in value)


def own_room(value):
    return type(value) is tuple and 1 <= len(value) <= 4 and all(
        type(level) is tuple and len(level) == 2 and is_pair(level[0]) and is_pair(level[1])
        and Fraction(*level[0]) < Fraction(*level[1]) for level in value)


def own_row(value):
    return type(value) is tuple and 1 <= len(value) <= 4 and are_pairs(value, len(value))


def own_turn(value):
    """Whether a value is a tuple of one to three rows of one length, none twice."""
    if type(value) is not tuple or not 1 <= len(value) <= 3 or not all(own_row(one) for one in value):
        return False
    return len({len(one) for one in value}) == 1 and len(set(value)) == len(value)


def own_is_plant(value):
    """Whether a value is a plant, by the words of the document."""
    if type(value) is not tuple or len(value) != 3 or not own_room(value[0]):
        return False
    if type(value[1]) is not tuple or len(value[1]) > 4 or not all(own_turn(turn) for turn in value[1]):
        return False
    many = 1
    for turn in value[1]:
        many *= len(turn)
        if len(turn[0]) != len(value[0]):
            return False
    return many <= 64 and are_pairs(value[2], len(value[1]))


def own_is_deed(deed):
    """Whether behind's first BadDeed is not due."""
    if type(deed) is not tuple or not deed or type(deed[0]) is not str or deed[0] not in PARTS:
        return False
    if len(deed) != PARTS[deed[0]] + 1:
        return False
    told = {"room": own_room, "turn": own_turn}.get(deed[0])
    if told is not None and not told(deed[2]):
        return False
    if deed[0] in ("corner", "drop", "cost") and (type(deed[2]) is not int or deed[2] < 0):
        return False
    if deed[0] in ("turn", "cost") and not is_pair(deed[3]):
        return False
    return deed[0] != "corner" or own_row(deed[3])


def own_behind(state, deed):
    """The state behind a deed; or the error that is due, as a tuple of its name and what it tells."""
    if not own_is_deed(deed):
        return ("BadDeed",)
    word, names = deed[0], deed[1:3] if deed[0] == "put" else deed[1:2]
    for name in names:
        if not own_name(name):
            return ("BadName", name)
    for name in names:
        if word != "room" and name not in state:
            return ("UnknownName", name)
    name, told = names[0], dict(state)
    if word == "away":
        del told[name]
        return told
    room, mill, costs = state.get(name, (deed[2], (), ()))
    levels = {"room": lambda: len(deed[2]), "turn": lambda: len(deed[2][0]), "corner": lambda: len(deed[3]),
              "put": lambda: len(state[deed[2]][0])}.get(word, lambda: len(room))()
    if levels != len(room) and (word != "room" or mill):
        return ("BadDeed",)
    if word in ("corner", "drop", "cost"):
        if deed[2] >= len(mill):
            return ("BadDeed",)
        turns, prices = list(mill), list(costs)
        if word == "drop":
            del turns[deed[2]], prices[deed[2]]
        elif word == "cost":
            prices[deed[2]] = deed[3]
        elif deed[3] in turns[deed[2]]:
            return ("BadDeed",)
        else:
            turns[deed[2]] += (deed[3],)
        plant = (room, tuple(turns), tuple(prices))
    else:
        more = {"room": ((), ()), "turn": (deed[2:3], deed[3:4])}.get(word) or state[deed[2]][1:]
        plant = (deed[2] if word == "room" else room, mill + more[0], costs + more[1])
    told[name] = plant
    if len(told) > 12 or not own_is_plant(plant):
        return ("TooMany",)
    return told


def outcome(call, *given):
    """What a call returns, or the error that it raises, as a tuple of its name and what it tells."""
    try:
        return call(*given)
    except (LevelError, Missing) as error:
        return (error.__class__.__name__,) + tuple(vars(error).values())


def random_turn(rng, levels, most=9, corners=3):
    turn = []
    for _ in range(rng.randint(1, corners)):
        one = random_row(rng, levels, most)
        if one not in turn:
            turn.append(one)
    return tuple(turn)


def random_plant(rng, levels=None, most=9):
    levels = levels or rng.randint(1, 4)
    while True:
        turns = tuple(random_turn(rng, levels, most) for _ in range(rng.randint(0, 4)))
        plant = (random_room(rng, levels, most), turns, tuple(random_pair(rng, most) for _ in turns))
        if own_is_plant(plant):
            return plant


def random_deed(rng, names, levels=2, most=2):
    """A deed that often fits a state with these names, and often does not."""
    word, name = rng.choice(list(PARTS)), rng.choice(names)
    if rng.random() < 0.1:
        levels = rng.randint(1, 4)
    return {
        "room": lambda: (word, name, random_room(rng, levels, 9)),
        "turn": lambda: (word, name, random_turn(rng, levels, most), random_pair(rng, most)),
        "corner": lambda: (word, name, rng.randint(0, 4), random_row(rng, levels, most)),
        "drop": lambda: (word, name, rng.randint(0, 4)), "put": lambda: (word, name, rng.choice(names)),
        "cost": lambda: (word, name, rng.randint(0, 4), random_pair(rng, most)), "away": lambda: (word, name)}[word]()


class Plants(unittest.TestCase):
    def test_examples(self):
        first = behind(behind({}, ("room", "a", ((ZERO, FOUR),))), ("turn", "a", ((ONE,), (LESS,)), (1, 2)))
        self.assertEqual(first, FIRST)
        self.assertEqual(
            [plant_text(first["a"]), is_plant(first["a"]), is_plant((((ZERO, FOUR),), (), (ONE,)))],
            ["[0 4]; 1/2 (1) (-1)", True, False])
        self.assertEqual(
            [plant_text(behind(first, ("corner", "a", 0, (ZERO,)))["a"]),
             plant_text(behind(first, ("put", "a", "a"))["a"]),
             behind(first, ("away", "a"))],
            ["[0 4]; 1/2 (1) (-1) (0)", "[0 4]; 1/2 (1) (-1); 1/2 (1) (-1)", {}])
        with self.assertRaises(UnknownName) as caught:
            behind(first, ("drop", "b", 0))
        self.assertEqual(caught.exception.name, "b")
        with self.assertRaises(BadDeed):
            behind(first, ("drop", "a", 1))

    def test_is_plant(self):
        turn, three = (row(1),), (row(1), row(2), row(3))
        for value, told in [
                ((LINE, (), ()), True), ((LINE, (turn,), row(1)), True), ((LINE, (turn,) * 4, row(1, 1, 1, 1)), True),
                ((LINE, (turn,) * 5, row(1, 1, 1, 1, 1)), False), ((LINE, (three,) * 3, row(1, 1, 1)), True),
                ((LINE, (three,) * 4, row(1, 1, 1, 1)), False),
                ((LINE, (three,) * 3 + (three[:2],), row(1, 1, 1, 1)), True),
                ((LINE, (three + (row(4),),), row(1)), False), ((LINE, (turn * 2,), row(1)), False),
                ((LINE, ((),), row(1)), False), ((LINE, (turn,), ()), False), ((LINE, (turn,), row(1, 1)), False),
                ((LINE, [turn], row(1)), False), ((LINE, (list(turn),), row(1)), False),
                ((LINE, (turn,), list(row(1))), False),
                ([LINE, (), ()], False), ((LINE, ()), False), ((LINE, (), (), ()), False),
                ((list(LINE), (), ()), False),
                ((LINE, ((row(1, 1),),), row(1)), False), ((LINE * 2, ((row(1, 1),),), row(1)), True),
                ((LINE, ((((True, 1),),),), row(1)), False), ((LINE, (turn,), ((1, True),)), False),
                ((LINE, (turn,), ((2, 4),)), False), ((((FOUR, ZERO),), (), ()), False), (((), (), ()), False),
                ((LINE, (([(1, 1)],),), row(1)), False), ((LINE, (({},),), row(1)), False), ((LINE * 5, (), ()), False),
                ((LINE, None, ()), False), (None, False), (("a", "b", "c"), False), ({}, False)]:
            self.assertIs(is_plant(value), told, value)
            self.assertIs(own_is_plant(value), told, value)

    def test_is_plant_of_any_values(self):
        rng = rng_for(1)
        told = []
        for _ in range(300):
            plant = random_plant(rng)
            self.assertIs(is_plant(plant), True)
            for value in [changed(plant, rng) for _ in range(12)] + ANY_VALUES:
                told.append(is_plant(value))
                self.assertIs(told[-1], own_is_plant(value), value)
        self.assertGreater(told.count(True), 100)

    def test_plant_text(self):
        rng = rng_for(2)
        for _ in range(100):
            room, mill, costs = random_plant(rng, None, 999999)
            wanted = room_text(room)
            for turn, cost in zip(mill, costs):
                wanted += "; " + fraction_text(cost)
                for one in turn:
                    wanted += " " + row_text(one)
            self.assertEqual(plant_text((room, mill, costs)), wanted)
        self.assertEqual(plant_text((LINE * 2, ((row(1, "-1/2"),), (row(0, 0), row(3, 4))), row(-1, "7/3"))),
                         "[0 4] [0 4]; -1 (1 -1/2); 7/3 (0 0) (3 4)")
        self.assertEqual(plant_text((LINE, (), ())), "[0 4]")


class Behind(unittest.TestCase):
    def test_each_deed(self):
        two = {"a": FIRST["a"], "b": (((LESS, ONE),), ((row(5),), (row(6), row(7))), row(8, 9))}
        a, b = two["a"], two["b"]
        for deed, name, plant in [
                (("room", "a", ((LESS, ONE),)), "a", (((LESS, ONE),),) + a[1:]),
                (("room", "c", LINE * 3), "c", (LINE * 3, (), ())),
                (("turn", "a", (row(5),), (-3, 1)), "a", (LINE, a[1] + ((row(5),),), ((1, 2), (-3, 1)))),
                (("turn", "a", a[1][0], (1, 2)), "a", (LINE, a[1] * 2, a[2] * 2)),
                (("corner", "b", 0, row(0)), "b", (b[0], ((row(5), row(0)), b[1][1]), b[2])),
                (("corner", "b", 1, row(5)), "b", (b[0], (b[1][0], (row(6), row(7), row(5))), b[2])),
                (("drop", "b", 0), "b", (b[0], b[1][1:], b[2][1:])),
                (("drop", "b", 1), "b", (b[0], b[1][:1], b[2][:1])),
                (("drop", "a", 0), "a", (LINE, (), ())), (("cost", "b", 0, (0, 1)), "b", (b[0], b[1], row(0, 9))),
                (("cost", "b", 1, (0, 1)), "b", (b[0], b[1], row(8, 0))),
                (("put", "a", "b"), "a", (LINE, a[1] + b[1], a[2] + b[2])),
                (("put", "b", "a"), "b", (b[0], b[1] + a[1], b[2] + a[2])),
                (("put", "b", "b"), "b", (b[0], b[1] * 2, b[2] * 2))]:
            told = behind(two, deed)
            self.assertEqual(told, {**two, name: plant}, deed)
            self.assertTrue(is_plant(told[name]))
            self.assertIsNot(told, two)
            self.assertEqual(two, {"a": a, "b": b})
        self.assertEqual(behind(two, ("away", "a")), {"b": b})
        self.assertEqual(behind(two, ("away", "b")), {"a": a})
        told = behind({}, ("room", "abcdefgh", LINE))
        self.assertEqual(told, {"abcdefgh": (LINE, (), ())})
        told["x"] = None
        self.assertEqual(behind({}, ("room", "abcdefgh", LINE)), {"abcdefgh": (LINE, (), ())})

    def test_a_room_of_other_levels_if_there_are_no_turns(self):
        state = behind(FIRST, ("drop", "a", 0))
        self.assertEqual(behind(state, ("room", "a", LINE * 2)), {"a": (LINE * 2, (), ())})
        self.assertEqual(outcome(behind, FIRST, ("room", "a", LINE * 2)), ("BadDeed",))

    def test_each_error(self):
        state = {"a": FIRST["a"], "b": (LINE * 2, (), ()), "c": (LINE, (), ())}
        turn = ((ONE,), (LESS,))
        for deed, told in [
                (("room", "a", LINE * 2), ("BadDeed",)), (("turn", "a", (row(1, 1),), ONE), ("BadDeed",)),
                (("turn", "b", turn, ONE), ("BadDeed",)), (("corner", "a", 0, row(1, 1)), ("BadDeed",)),
                (("corner", "a", 0, (ONE,)), ("BadDeed",)), (("corner", "a", 0, (LESS,)), ("BadDeed",)),
                (("corner", "a", 1, row(5)), ("BadDeed",)), (("drop", "a", 1), ("BadDeed",)),
                (("drop", "c", 0), ("BadDeed",)),
                (("cost", "a", 1, ONE), ("BadDeed",)), (("cost", "a", 10 ** 150, ONE), ("BadDeed",)),
                (("put", "a", "b"), ("BadDeed",)), (("put", "b", "a"), ("BadDeed",)), (("put", "b", "c"), ("BadDeed",)),
                (("put", "a", "x"), ("UnknownName", "x")), (("put", "x", "y"), ("UnknownName", "x")),
                (("put", "x", "A"), ("BadName", "A")), (("put", "A", "B"), ("BadName", "A")),
                (("put", "a", ""), ("BadName", "")),
                (("turn", "x", turn, ONE), ("UnknownName", "x")), (("corner", "x", 0, row(5)), ("UnknownName", "x")),
                (("drop", "x", 0), ("UnknownName", "x")), (("cost", "x", 0, ONE), ("UnknownName", "x")),
                (("away", "x"), ("UnknownName", "x")), (("away", "aa"), ("UnknownName", "aa")),
                (("room", "abcdefghi", LINE), ("BadName", "abcdefghi")), (("room", "", LINE), ("BadName", "")),
                (("room", "a1", LINE), ("BadName", "a1")), (("room", " a", LINE), ("BadName", " a")),
                (("room", "a\n", LINE), ("BadName", "a\n")), (("away", None), ("BadName", None)),
                (("away", 1), ("BadName", 1)),
                (("away", []), ("BadName", [])), (("away", {"a": [1]}), ("BadName", {"a": [1]})),
                (("away", True), ("BadName", True)),
                (("away", ("a",)), ("BadName", ("a",))), (("away", ([],)), ("BadName", ([],))),
                (("drop", [], 9), ("BadName", [])), (("room", "A", None), ("BadDeed",)),
                (("turn", [], (), ONE), ("BadDeed",)),
                (("turn", "a", turn + turn, ONE), ("BadDeed",)),
                (("turn", "a", (row(1), row(1, 1)), ONE), ("BadDeed",)),
                (("turn", "a", (row(1), row(2), row(3), row(4)), ONE), ("BadDeed",)),
                (("turn", "a", list(turn), ONE), ("BadDeed",)),
                (("turn", "a", (), ONE), ("BadDeed",)), (("turn", "a", turn, 1), ("BadDeed",)),
                (("turn", "a", turn, (2, 2)), ("BadDeed",)), (("turn", "a", (row(1, 1, 1, 1, 1),), ONE), ("BadDeed",)),
                (("turn", "a", ((),), ONE), ("BadDeed",)), (("turn", "a", ([ONE],), ONE), ("BadDeed",)),
                (("corner", "a", -1, row(5)), ("BadDeed",)), (("corner", "a", False, row(5)), ("BadDeed",)),
                (("corner", "a", "0", row(5)), ("BadDeed",)), (("corner", "a", 0, ()), ("BadDeed",)),
                (("corner", "a", 0, list(row(5))), ("BadDeed",)), (("corner", "a", 0, row(5) * 5), ("BadDeed",)),
                (("drop", "a", False), ("BadDeed",)), (("drop", "a", -1), ("BadDeed",)),
                (("drop", "a", None), ("BadDeed",)),
                (("drop", "a"), ("BadDeed",)), (("drop", "a", 0, 0), ("BadDeed",)), (["drop", "a", 0], ("BadDeed",)),
                (("cost", "a", 0, 1), ("BadDeed",)), (("cost", "a", 0, (1, True)), ("BadDeed",)),
                (("cost", "a", False, ONE), ("BadDeed",)), (("away",), ("BadDeed",)),
                (("away", "a", "b"), ("BadDeed",)),
                (("room", "a", list(LINE)), ("BadDeed",)), (("room", "a", ((ONE, ZERO),)), ("BadDeed",)),
                ((), ("BadDeed",)),
                ((None, "a"), ("BadDeed",)), (([], "a"), ("BadDeed",)), (({}, "a"), ("BadDeed",)),
                (("Away", "a"), ("BadDeed",)),
                ("away a", ("BadDeed",)), (None, ("BadDeed",)), ((("away", "a"),), ("BadDeed",))]:
            self.assertEqual(repr(outcome(behind, state, deed)), repr(told), deed)
            self.assertEqual(repr(own_behind(state, deed)), repr(told), deed)

    def test_two_errors_at_once(self):
        three = (row(1), row(2), row(3))
        full = (LINE, (three,) * 3 + (three[:2],), row(1, 1, 1, 1))
        state = {"a": full, "b": (LINE * 2, (), ())}
        for deed, told in [
                (("turn", "a", (row(1, 1),), ONE), "BadDeed"), (("turn", "a", (row(1),), ONE), "TooMany"),
                (("corner", "a", 0, row(1)), "BadDeed"), (("corner", "a", 0, row(4)), "TooMany"),
                (("corner", "a", 4, row(4)), "BadDeed"), (("corner", "a", 3, row(3)), "TooMany"),
                (("corner", "a", 3, row(2)), "BadDeed"), (("corner", "a", 3, row(3, 3)), "BadDeed"),
                (("put", "a", "a"), "TooMany"), (("put", "a", "b"), "BadDeed"), (("put", "a", "A"), "BadName"),
                (("put", "x", ""), "BadName"), (("drop", "X", 99), "BadName"), (("drop", "x", 99), "UnknownName"),
                (("corner", "X", -1, row(1)), "BadDeed"), (("turn", "x", (row(1, 1),), ONE), "UnknownName")]:
            self.assertEqual(outcome(behind, state, deed)[0], told, deed)
            self.assertEqual(own_behind(state, deed)[0], told, deed)

    def test_too_many(self):
        names = ["n" + c for c in "abcdefghijkl"]
        state = {name: (LINE, (), ()) for name in names}
        self.assertEqual(outcome(behind, state, ("room", "x", LINE)), ("TooMany",))
        self.assertEqual(outcome(behind, state, ("room", "X", LINE)), ("BadName", "X"))
        self.assertEqual(len(behind(state, ("room", "na", LINE * 2))), 12)
        self.assertEqual(len(behind(behind(state, ("away", "nb")), ("room", "x", LINE))), 12)
        self.assertEqual(len(behind(state, ("turn", "na", (row(1),), ONE))), 12)
        one, two, three = (row(1),), (row(1), row(2)), (row(1), row(2), row(3))
        state = {"a": (LINE, (one,) * 4, row(1, 1, 1, 1)), "b": (LINE, (three,) * 3, row(1, 1, 1)),
                 "c": (LINE, (three, three, three, two), row(1, 1, 1, 1)), "d": (LINE, (one,), row(1)),
                 "e": (LINE, (), ()),
                 "f": (LINE, (three, three), row(1, 1))}
        for deed, told in [
                (("turn", "a", one, ONE), "TooMany"), (("put", "a", "d"), "TooMany"), (("put", "a", "e"), None),
                (("turn", "b", three, ONE), "TooMany"), (("turn", "b", two, ONE), None),
                (("turn", "b", one, ONE), None),
                (("corner", "b", 0, row(4)), "TooMany"), (("corner", "c", 3, row(3)), "TooMany"),
                (("corner", "a", 0, row(2)), None),
                (("put", "b", "d"), None), (("put", "d", "b"), None), (("put", "b", "b"), "TooMany"),
                (("put", "d", "d"), None),
                (("put", "f", "f"), "TooMany"), (("put", "d", "f"), None), (("room", "a", ((LESS, ONE),)), None)]:
            value = outcome(behind, state, deed)
            self.assertEqual(value[0] if type(value) is tuple else None, told, deed)
            self.assertEqual(value, own_behind(state, deed), deed)

    def test_against_the_words(self):
        rng = rng_for(3)
        told = []
        names = ["a", "b", "ccc", "zzzzzzzz", "d", "e", "f", "g", "h", "i", "j", "k", "l", "m"]
        for _ in range(60):
            state = {}
            for _ in range(120):
                some = rng.choice([names[:2], names[:3], names, names + ["A", "", None, [], "toolongname"]])
                deed = random_deed(rng, some)
                if deed[0] in ("away", "drop") and rng.random() < 0.9:
                    continue
                if rng.random() < 0.15:
                    deed = changed(deed, rng)
                before = dict(state)
                wanted = own_behind(state, deed)
                value = outcome(behind, state, deed)
                self.assertEqual(repr(value), repr(wanted), deed)
                self.assertEqual(state, before)
                told.append(value[0] if type(value) is tuple else "state")
                if type(value) is dict:
                    self.assertTrue(all(is_plant(plant) for plant in value.values()))
                    state = value
        for word in ("state", "BadDeed", "BadName", "UnknownName", "TooMany"):
            self.assertGreater(told.count(word), 60, word)

    def test_any_value(self):
        for deed in ANY_VALUES:
            self.assertEqual(outcome(behind, FIRST, deed), ("BadDeed",))
            for word in PARTS:
                for wrong in ((word, deed), (word, "a", deed), (word, "a", 0, deed), (word, "a", deed, (ONE,)),
                              (deed, "a", 0), (word, "a", "b", "c", deed)):
                    self.assertEqual(repr(outcome(behind, FIRST, wrong)), repr(own_behind(FIRST, wrong)), wrong)

    def test_errors_bear_copies(self):
        name = [1, [2]]
        with self.assertRaises(BadName) as caught:
            behind(FIRST, ("away", name))
        name[1].append(3)
        self.assertEqual(caught.exception.name, [1, [2]])


class Texts(unittest.TestCase):
    def test_examples(self):
        self.assertEqual(
            [deed_text(("turn", "a", ((ONE,), (LESS,)), (1, 2))), read_deed("drop a 0"),
             read_deed("room b [0 4] [-1/2 1]")],
            ["turn a 1/2 (1) (-1)", ("drop", "a", 0), ("room", "b", (((0, 1), (4, 1)), ((-1, 2), (1, 1))))])

    def test_each_word(self):
        for deed, text in [
                (("room", "a", LINE), "room a [0 4]"),
                (("turn", "bc", (row(1, "-1/2"), row(0, 3)), (-7, 2)), "turn bc -7/2 (1 -1/2) (0 3)"),
                (("corner", "a", 12, row("1/3")), "corner a 12 (1/3)"),
                (("drop", "zzzzzzzz", 999999999), "drop zzzzzzzz 999999999"),
                (("cost", "a", 3, (5, 1)), "cost a 3 5"), (("cost", "a", 0, (-5, 3)), "cost a 0 -5/3"),
                (("put", "a", "b"), "put a b"),
                (("put", "a", "a"), "put a a"), (("away", "room"), "away room"), (("drop", "drop", 0), "drop drop 0"),
                (("turn", "a", (row(1, 2, 3, 4),), ZERO), "turn a 0 (1 2 3 4)"),
                (("put", "put", "put"), "put put put")]:
            self.assertEqual(deed_text(deed), text)
            self.assertEqual(read_deed(text), deed)

    def test_there_and_back_and_each_sign_changed(self):
        rng = rng_for(4)
        found = 0
        for _ in range(120):
            deed = random_deed(rng, ["a", "bcd", "turn", "zzzzzzzz"], rng.randint(1, 4), rng.choice([2, 999]))
            text = deed_text(deed)
            self.assertEqual(read_deed(text), deed)
            for at in range(len(text) + 1):
                sign = rng.choice("0123456789 -/()[]abz;.,:*\n")
                for other in (text[:at] + text[at + 1:], text[:at] + sign + text[at:], text[:at] + sign + text[at + 1:],
                              text[:at] + text[at + 1:at + 2] + text[at:at + 1] + text[at + 2:]):
                    told = outcome(read_deed, other)
                    if told == ("BadText", 0):
                        continue
                    found += 1
                    self.assertTrue(own_is_deed(told) and own_name(told[1]), other)
                    self.assertEqual(deed_text(told), other)
        self.assertGreater(found, 500)

    def test_texts_of_none(self):
        for text in [
                "", " ", "a", "room", "room ", "room a", "room a ", "room a [0 4] ", " room a [0 4]", "room  a [0 4]",
                "room a  [0 4]",
                "room a [4 0]", "room a [0 0]", "room a [0 4]  [0 4]", "room a [0 4] [0 4] [0 4] [0 4] [0 4]",
                "room A [0 4]",
                "room abcdefghi [0 4]", "room a [0 4/2]", "room a [00 4]", "room a [0 4]\n", "turn a", "turn a 1",
                "turn a 1 ",
                "turn a (1)", "turn a 1 (1) (1)", "turn a 1 (1) (1 2)", "turn a 1 (1) (2) (3) (4)", "turn a 1  (1)",
                "turn a 1 (1)  (2)",
                "turn a 1 (1)(2)", "turn a 1 (1) ", "turn a 1 ()", "turn a 2/2 (1)", "turn a -0 (1)",
                "turn a 1 (1 2 3 4 5)",
                "turn a +1 (1)", "corner a (1)", "corner a 0", "corner a 0 ", "corner a 0 (1) (2)", "corner a -1 (1)",
                "corner a 00 (1)",
                "corner a 01 (1)", "corner a 1234567890 (1)", "corner a 0 1", "corner a 0  (1)", "corner a 0 (1) ",
                "corner A 0 (1)",
                "drop a", "drop a ", "drop a -0", "drop a -1", "drop a 00", "drop a 01", "drop a 1.0",
                "drop a 1000000000", "drop a 1 ",
                "drop a 1 1", "drop 1", "drop a1 0", "drop a x", "cost a 0", "cost a 0 ", "cost a 0 1 ",
                "cost a 0 1 1", "cost a 0 2/4",
                "cost a 0 1/1", "cost a 0 1/0", "cost a 0 -0", "cost a 1", "cost a  1", "cost a 1234567890 1", "put a",
                "put a ", "put a b ",
                "put a b c", "put  a b", "put a  b", "put a B", "put a 1", "put a abcdefghi", "away", "away ",
                "away a ", "away  a",
                "away a b", "away A", "away a1", "Away a", "undo", "show a", "held a", "turn a 1/2", "room a (1)",
                "room a 1", "away\ta",
                "drop\na 0", "x a 0 1", "x a 0", "put", "corner", "cost", "drop"]:
            with self.assertRaises(BadText) as caught:
                read_deed(text)
            self.assertEqual(caught.exception.place, 0, text)

    def test_figures(self):
        n, more = "1" + "0" * 199, "1" + "0" * 200
        self.assertEqual(read_deed(f"cost a 0 {n}"), ("cost", "a", 0, (10 ** 199, 1)))
        self.assertEqual(read_deed(f"cost a 0 -{n}/{n[:-1]}1"), ("cost", "a", 0, (-10 ** 199, 10 ** 199 + 1)))
        self.assertEqual(read_deed(f"turn a -{n} ({n})"), ("turn", "a", ((((10 ** 199, 1),),)), (-10 ** 199, 1)))
        for text in (f"cost a 0 {more}", f"cost a 0 1/{more}", f"turn a {more} (1)", f"turn a 1 ({more})",
                     f"room a [0 {more}]",
                     f"corner a 0 (-{more})", f"corner a {n} (1)"):
            self.assertEqual(outcome(read_deed, text), ("BadText", 0))
        self.assertEqual(read_deed("drop a 123456789"), ("drop", "a", 123456789))
        self.assertEqual(outcome(read_deed, "drop a 1234567890"), ("BadText", 0))
        self.assertEqual(deed_text(("drop", "a", GREAT)), "drop a " + str(GREAT))
        self.assertEqual(deed_text(("corner", "a", 10 ** 9, row(1))), "corner a 1000000000 (1)")

    def test_any_value(self):
        for value in ANY_VALUES:
            self.assertEqual(outcome(read_deed, value), ("BadText", 0))


if __name__ == "__main__":
    unittest.main()
