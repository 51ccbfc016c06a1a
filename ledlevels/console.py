"""A console: lines that a house of its own carries out, each with an answer."""

from ledlevels.deeds import PARTS, count_of, is_name, plant_text, read_deed
from ledlevels.errors import BadText, LevelError, Missing, UnknownName
from ledlevels.house import House
from ledlevels.questions import ASKED
from ledlevels.texts import check_end, fraction_text, row_from, some_from

ALONE = ("undo", "redo", "show")
WITH_NAME = ("branch", "go", "merge", "show", "today")
ROWS = {"kept": 1, "way": 2}


# Each function called ..._of reads a text, and raises BadText if it cannot.


def name_of(text):
    """Return the name that has this text."""
    if not is_name(text):
        raise BadText(0)
    return text


def choice_of(text):
    """Return the choice that has this text."""
    return tuple([count_of(part) for part in text.split(".")])


def rows_of(text, many):
    """Return the tuple of so many rows that has this text."""
    rows, at = some_from(text, 0, row_from, many)
    check_end(text, at)
    if len(rows) != many:
        raise BadText(at)
    return rows


def question_of(text):
    """Return the question that has this text."""
    word, _, rest = text.partition(" ")
    if word not in ASKED:
        raise BadText(0)
    if word not in ROWS:
        return (word, name_of(rest))
    name, _, more = rest.partition(" ")
    choice, _, rows = more.partition(" ")
    return (word, name_of(name), choice_of(choice)) + rows_of(rows, ROWS[word])


def order_of(line):
    """Return the tuple of a word and its other parts that a line says: a deed, a question, or another one."""
    word, _, rest = line.partition(" ")
    if line in ALONE:
        return (line,)
    if word in PARTS:
        return read_deed(line)
    if word in WITH_NAME:
        return (word, name_of(rest))
    if word != "keep":
        return question_of(line)
    label, _, more = rest.partition(" ")
    return (word, name_of(label), question_of(more))


def answer_text(question, answer):
    """Return the text of what a house tells of a question."""
    if question[0] != "margin":
        return answer[0]
    return "none" if answer is None else fraction_text(answer[0])


def shown(state, names):
    """Return the text of a state if there are no names, else that of the plant of the only one."""
    if not names:
        return " ".join(sorted(list(state)))
    if names[0] not in state:
        raise UnknownName(names[0])
    return plant_text(state[names[0]])


def move(house, order):
    """Let a house do what an order of moments and branches says."""
    word = order[0]
    if word == "undo":
        house.undo()
    elif word == "redo":
        house.redo()
    elif word == "branch":
        house.branch(order[1])
    elif word == "go":
        house.go(order[1])
    elif word == "merge":
        house.merge(order[1])
    else:
        house.do(order)


def carried_out(house, order):
    """Let a house do what an order says, and return the answer."""
    word = order[0]
    if word == "show":
        return shown(house.state(), order[1:])
    if word in ASKED:
        return answer_text(order, house.ask(order))
    if word == "keep":
        return answer_text(order[2], house.keep(order[1], order[2]))
    if word == "today":
        fault = house.today(order[1])
        return "right" if fault is None else fault[0]
    move(house, order)
    return str(house.number())


class Console:
    """A house of its own, to which lines are said."""

    def __init__(self):
        self.home = House()

    def house(self):
        """Return the house, always the same one."""
        return self.home

    def say(self, line):
        """Do what a line says, and return the answer; "refused" if it raises an error, "what" if it says nothing."""
        if not isinstance(line, str):
            return "what"
        try:
            order = order_of(line)
        except BadText:
            return "what"
        try:
            return carried_out(self.home, order)
        except (LevelError, Missing):
            return "refused"
