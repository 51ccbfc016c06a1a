"""A house of plants: moments, branches that go from moment to moment, and papers kept by labels."""

from ledlevels.deeds import MOST_NAMES, behind, is_name
from ledlevels.errors import BadName, Clash, LevelError, Missing, NoMoment, NothingDone, TooMany, UnknownName, copied
from ledlevels.fractions import is_number
from ledlevels.questions import answer_to, fault_in, plant_asked

MOST_MOMENTS = 200
MOST_BRANCHES = 6
MOST_PAPERS = 8


def changed_names(base, state):
    """Return the ascending list of the names whose plants are not what they are in the base."""
    names = dict(base)
    names.update(state)
    return [name for name in sorted(list(names)) if base.get(name) != state.get(name)]


def merged_state(base, mine, other):
    """Return my state with what is changed in the other one; Clash or TooMany if there is none."""
    own, theirs = changed_names(base, mine), changed_names(base, other)
    clashing = [name for name in theirs if name in own and mine.get(name) != other.get(name)]
    if clashing:
        raise Clash(tuple(clashing))
    told = {name: mine[name] for name in mine if name not in theirs}
    for name in theirs:
        if name in other:
            told[name] = other[name]
    if len(told) > MOST_NAMES:
        raise TooMany()
    return told


class House:
    """Moments, each a pair of its state and its elders; branches, each at a moment; papers."""

    def __init__(self):
        self.moments = [({}, ())]
        self.stands = {"main": 0}
        self.undone = {"main": []}
        self.current = "main"
        self.papers = {}

    def number(self):
        """Return the number of the present moment."""
        return self.stands[self.current]

    def state(self):
        """Return the state of the present moment."""
        return self.state_at(self.number())

    def check_moment(self, number):
        """Raise NoMoment if a value is the number of none."""
        if not is_number(number) or not 0 <= number < len(self.moments):
            raise NoMoment(number)

    def state_at(self, number):
        """Return the state of a moment; NoMoment if there is none of this number."""
        self.check_moment(number)
        state, _ = self.moments[number]
        return {name: state[name] for name in state}

    def elders(self, number):
        """Return the tuple of a moment's elders; NoMoment if there is none of this number."""
        self.check_moment(number)
        return self.moments[number][1]

    def branches(self):
        """Return the list of the branches' names, as they came."""
        return list(self.stands)

    def present(self):
        """Return the name of the present branch."""
        return self.current

    def new_moment(self, state, elders):
        """Let the present branch go to a new moment, and return its number; TooMany if there are 200."""
        if len(self.moments) >= MOST_MOMENTS:
            raise TooMany()
        self.moments.append((state, elders))
        self.undone[self.current] = []
        self.stands[self.current] = len(self.moments) - 1
        return self.number()

    def do(self, deed):
        """Go to a new moment with the state behind a deed, and return its number."""
        return self.new_moment(behind(self.state(), deed), (self.number(),))

    def undo(self):
        """Go back to the first elder, and return its number; NothingDone if there is none."""
        elders = self.elders(self.number())
        if not elders:
            raise NothingDone()
        self.undone[self.current].append(self.number())
        self.stands[self.current] = elders[0]
        return self.number()

    def redo(self):
        """Go to the moment that was undone last, and return its number; NothingDone if there is none."""
        if not self.undone[self.current]:
            raise NothingDone()
        self.stands[self.current] = self.undone[self.current].pop()
        return self.number()

    def is_branch(self, name):
        """Return whether a value is a branch's name."""
        return is_name(name) and name in self.stands

    def branch(self, name):
        """Make a new branch at the present moment; BadName or TooMany if it cannot be."""
        if not is_name(name) or self.is_branch(name):
            raise BadName(name)
        if len(self.stands) >= MOST_BRANCHES:
            raise TooMany()
        self.stands[name] = self.number()
        self.undone[name] = []

    def go(self, name):
        """Make a branch the present one, and return the number of its moment; UnknownName if there is none."""
        if not self.is_branch(name):
            raise UnknownName(name)
        self.current = name
        return self.number()

    def merge(self, name):
        """Go to a new moment with what is changed in a branch, too, and return its number."""
        if not self.is_branch(name):
            raise UnknownName(name)
        theirs = self.stands[name]
        base = self.common(self.number(), theirs)
        if base == theirs:
            raise NothingDone()
        state = merged_state(self.state_at(base), self.state(), self.state_at(theirs))
        return self.new_moment(state, (self.number(), theirs))

    def all_behind(self, number):
        """Return the list of a moment, its elders, all of these moments' elders, and so on, each once."""
        found = {number: True}
        # Elders have lesser numbers than the moments behind which they stand.
        for k in range(number, -1, -1):
            if k in found:
                for elder in self.elders(k):
                    found[elder] = True
        return list(found)

    def common(self, one, other):
        """Return the greatest moment that two moments have behind them."""
        theirs = self.all_behind(other)
        return max([number for number in self.all_behind(one) if number in theirs])

    def ask(self, question):
        """Return the answer to a question on the present state; BadDeed, BadName or UnknownName if there is none."""
        return answer_to(plant_asked(self.state(), question), question)

    def keep(self, label, question):
        """Return the answer to a question, and keep it by a label; BadName, what ask raises, or TooMany."""
        if not is_name(label) or label in self.papers:
            raise BadName(label)
        answer = self.ask(question)
        if len(self.papers) >= MOST_PAPERS:
            raise TooMany()
        self.papers[label] = (question, copied(answer), self.number())
        return answer

    def labels(self):
        """Return the ascending list of all labels."""
        return sorted(list(self.papers))

    def paper(self, label):
        """Return the question, the answer and the moment kept by a label; UnknownName if there are none."""
        if not is_name(label) or label not in self.papers:
            raise UnknownName(label)
        return copied(self.papers[label])

    def today(self, label):
        """Return None if a paper is right of the present state, else its fault; UnknownName if there is none."""
        question, answer, _ = self.paper(label)
        state = self.state()
        try:
            plant = plant_asked(state, question)
        except (LevelError, Missing):
            return ("gone",)
        return fault_in(plant, question, answer)
