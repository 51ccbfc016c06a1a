"""What a house can be asked of a plant, what answers it, and whether an answer is still right."""

from ledlevels.deeds import is_name
from ledlevels.errors import BadDeed, BadName, UnknownName
from ledlevels.held import held, judge_held
from ledlevels.kept import judge_kept, kept
from ledlevels.margins import judge_margin, margin
from ledlevels.mills import is_choice, rates_of
from ledlevels.rooms import is_place
from ledlevels.ways import judge_way, way

ASKED = {"held": 1, "margin": 1, "kept": 3, "way": 4}


def is_question(value):
    """Return whether a value is a tuple of a question's word and as many other parts."""
    if not isinstance(value, tuple) or len(value) == 0 or not isinstance(value[0], str):
        return False
    return ASKED.get(value[0]) == len(value) - 1


def can_be_asked(plant, question):
    """Return whether a plant has a turn, and the choice and the places of a question, if it has any."""
    room, mill, _ = plant
    if not mill:
        return False
    return all([is_choice(part, mill) for part in question[2:3]] + [is_place(room, part) for part in question[3:]])


def plant_asked(state, question):
    """Return the plant of a question; BadDeed, BadName or UnknownName if it cannot be asked."""
    if not is_question(question):
        raise BadDeed()
    name = question[1]
    if not is_name(name):
        raise BadName(name)
    if name not in state:
        raise UnknownName(name)
    if not can_be_asked(state[name], question):
        raise BadDeed()
    return state[name]


def answer_to(plant, question):
    """Return the answer to a question that can be asked of a plant."""
    room, mill, _ = plant
    word = question[0]
    if word == "held":
        return held(mill)
    if word == "margin":
        return margin(mill)
    rates = rates_of(mill, question[2])
    if word == "kept":
        return kept(room, rates, question[3])
    return way(room, rates, question[3], question[4])


def fault_in(plant, question, answer):
    """Return what the judge of a question tells of an answer, None if it is right for the plant."""
    room, mill, _ = plant
    word = question[0]
    if word == "held":
        return judge_held(mill, answer)
    if word == "margin":
        return judge_margin(mill, answer)
    rates = rates_of(mill, question[2])
    if word == "kept":
        return judge_kept(room, rates, question[3], answer)
    return judge_way(room, rates, question[3], question[4], answer)
