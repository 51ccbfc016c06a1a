"""Plants, and the deeds that change a state of them."""

from ledlevels.errors import BadDeed, BadName, BadText, TooMany, UnknownName
from ledlevels.fractions import is_fraction, is_number
from ledlevels.mills import MOST_CHOICES, how_many_choices, is_turn
from ledlevels.rooms import is_room
from ledlevels.rows import is_any_row, is_row
from ledlevels.texts import FIGURES, check_end, check_text, fraction_text, integer_text, read_fraction, read_room
from ledlevels.texts import read_row, room_text, row_from, row_text, some_from

LETTERS = "abcdefghijklmnopqrstuvwxyz"
MOST_LETTERS = 8
MOST_TURNS = 4
MOST_CORNERS = 3
MOST_NAMES = 12
MOST_K_FIGURES = 9
PARTS = {"room": 2, "turn": 3, "corner": 3, "drop": 2, "cost": 3, "put": 2, "away": 1}


def is_name(value):
    """Return whether a value is a name."""
    if not isinstance(value, str) or not 1 <= len(value) <= MOST_LETTERS:
        return False
    return all([sign in LETTERS for sign in value])


def is_over(mill):
    """Return whether a mill has more turns, corners or choices than a plant may have."""
    if len(mill) > MOST_TURNS or any([len(turn) > MOST_CORNERS for turn in mill]):
        return True
    return how_many_choices(mill) > MOST_CHOICES


def is_plant(value):
    """Return whether a value is a plant."""
    if not isinstance(value, tuple) or len(value) != 3:
        return False
    room, mill, costs = value
    if not is_room(room) or not isinstance(mill, tuple) or not all([is_turn(turn, len(room)) for turn in mill]):
        return False
    return not is_over(mill) and is_row(costs, len(mill))


def rows_text(rows):
    """Return the text of some rows, one blank ahead of each."""
    return "".join([" " + row_text(row) for row in rows])


def plant_text(plant):
    """Return the text of a plant: its room, and each turn with its cost."""
    room, mill, costs = plant
    return room_text(room) + "".join([
        "; " + fraction_text(cost) + rows_text(turn) for turn, cost in zip(mill, costs)
    ])


def is_any_turn(value):
    """Return whether a value is a tuple of one to three rows of one length, none twice."""
    if not isinstance(value, tuple) or not 1 <= len(value) <= MOST_CORNERS or not is_any_row(value[0]):
        return False
    return is_turn(value, len(value[0]))


def is_index(value):
    """Return whether a value is an integer from 0 on."""
    return is_number(value) and value >= 0


def is_deed(value):
    """Return whether a value is a deed; its names may be any values."""
    if not isinstance(value, tuple) or len(value) == 0 or not isinstance(value[0], str):
        return False
    word = value[0]
    if PARTS.get(word) != len(value) - 1:
        return False
    if word == "room":
        return is_room(value[2])
    if word == "turn":
        return is_any_turn(value[2]) and is_fraction(value[3])
    if word == "corner":
        return is_index(value[2]) and is_any_row(value[3])
    if word == "cost":
        return is_index(value[2]) and is_fraction(value[3])
    return is_index(value[2]) if word == "drop" else True


def names_of(deed):
    """Return the tuple of a deed's names."""
    return deed[1:3] if deed[0] == "put" else deed[1:2]


def check_names(state, deed):
    """Raise BadName for the first name of a deed that is none, then UnknownName for the first that is not there."""
    names = names_of(deed)
    for name in names:
        if not is_name(name):
            raise BadName(name)
    for name in names:
        if deed[0] != "room" and name not in state:
            raise UnknownName(name)


def in_place_of(parts, k, part):
    """Return the tuple with another part in the place of the part k."""
    return parts[:k] + (part,) + parts[k + 1:]


def plant_turned(plant, deed):
    """Return the plant behind a deed on its turn k; BadDeed if it does not fit."""
    room, mill, costs = plant
    word, k = deed[0], deed[2]
    if k >= len(mill):
        raise BadDeed()
    if word == "drop":
        return (room, mill[:k] + mill[k + 1:], costs[:k] + costs[k + 1:])
    if word == "cost":
        return (room, mill, in_place_of(costs, k, deed[3]))
    if len(deed[3]) != len(room) or deed[3] in mill[k]:
        raise BadDeed()
    return (room, in_place_of(mill, k, mill[k] + (deed[3],)), costs)


def plant_behind(state, deed):
    """Return the plant that the deed's first name has behind it; BadDeed if the deed does not fit."""
    word, name = deed[0], deed[1]
    if word == "room" and name not in state:
        return (deed[2], (), ())
    room, mill, costs = state[name]
    if word == "room":
        if mill and len(deed[2]) != len(room):
            raise BadDeed()
        return (deed[2], mill, costs)
    if word == "turn":
        turns, prices, levels = (deed[2],), (deed[3],), len(deed[2][0])
    elif word == "put":
        other, turns, prices = state[deed[2]]
        levels = len(other)
    else:
        return plant_turned(state[name], deed)
    if levels != len(room):
        raise BadDeed()
    return (room, mill + turns, costs + prices)


def behind(state, deed):
    """Return the state behind a deed, a new dict; BadDeed, BadName, UnknownName or TooMany if there is none."""
    if not is_deed(deed):
        raise BadDeed()
    check_names(state, deed)
    name = deed[1]
    if deed[0] == "away":
        return {other: state[other] for other in state if other != name}
    plant = plant_behind(state, deed)
    told = {other: state[other] for other in state}
    told[name] = plant
    if len(told) > MOST_NAMES or is_over(plant[1]):
        raise TooMany()
    return told


def deed_text(deed):
    """Return the text of a deed whose names are names."""
    start = deed[0] + " " + deed[1]
    if deed[0] == "room":
        return start + " " + room_text(deed[2])
    if deed[0] == "turn":
        return start + " " + fraction_text(deed[3]) + rows_text(deed[2])
    if deed[0] == "put":
        return start + " " + deed[2]
    if deed[0] == "away":
        return start
    start = start + " " + integer_text(deed[2])
    if deed[0] == "corner":
        return start + " " + row_text(deed[3])
    return start + " " + fraction_text(deed[3]) if deed[0] == "cost" else start


def count_of(text):
    """Return the integer from 0 on that has this text of at most nine figures; BadText if there is none."""
    if not 1 <= len(text) <= MOST_K_FIGURES or not all([sign in FIGURES for sign in text]):
        raise BadText(0)
    if len(text) > 1 and text[0] == "0":
        raise BadText(0)
    return int(text)


def turn_of(text):
    """Return the pair of the rows and the cost that have this text, the cost ahead; BadText if there are none."""
    cost, _, rest = text.partition(" ")
    rows, at = some_from(rest, 0, row_from, MOST_CORNERS)
    check_end(rest, at)
    return (rows, read_fraction(cost))


def deed_of(text):
    """Return the deed that has this text; BadText, or what is no deed, if there is none."""
    word, _, rest = text.partition(" ")
    if word == "away":
        return (word, rest)
    name, _, more = rest.partition(" ")
    if word == "room":
        return (word, name, read_room(more))
    if word == "turn":
        return (word, name) + turn_of(more)
    if word == "put":
        return (word, name, more)
    k, _, end = more.partition(" ")
    if word == "drop":
        return (word, name, count_of(more))
    if word == "corner":
        return (word, name, count_of(k), read_row(end))
    return (word, name, count_of(k), read_fraction(end))


def read_deed(text):
    """Return the deed that has this text; BadText(0) if there is none."""
    check_text(text)
    try:
        deed = deed_of(text)
    except BadText:
        raise BadText(0)
    if not is_deed(deed) or not all([is_name(name) for name in names_of(deed)]):
        raise BadText(0)
    return deed
