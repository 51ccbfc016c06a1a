"""The errors of the package: LevelError and Missing, and those beneath them."""


def copied(value):
    """Return a value like this one, whose lists and dicts, at any depth, are new."""
    if isinstance(value, list):
        return [copied(part) for part in value]
    if isinstance(value, tuple):
        return tuple([copied(part) for part in value])
    if isinstance(value, dict):
        return {key: copied(value[key]) for key in value}
    return value


# Each error with an argument gives the class above it words of its own. Python
# would else keep the very argument, with the caller's lists and dicts in it.


class LevelError(ValueError):
    """Something that was asked for cannot be, or was not well asked for."""


class BadFraction(LevelError):
    """Two values stand for no fraction, or something is divided by 0."""


class BadDeed(LevelError):
    """A deed or a question is none, or does not fit the state."""


class NothingDone(LevelError):
    """There is nothing to undo, to redo or to merge."""


class TooMany(LevelError):
    """There would be more of something than is let."""


class TooLate(LevelError):
    """A plan is shorter than the time that was asked for."""


class Endless(LevelError):
    """A plan is for ever."""


class Flat(LevelError):
    """A row but nought has the product 0 with each rate."""


class BadText(LevelError):
    """A text is none of what is read; place is where it cannot go on."""

    def __init__(self, place):
        super().__init__("the text cannot go on here")
        self.place = copied(place)


class NotInside(LevelError):
    """A place is not inside the room; number tells which one."""

    def __init__(self, number):
        super().__init__("the place is not inside the room")
        self.number = copied(number)


class NoWay(LevelError):
    """Nothing leads there, as the slope shows."""

    def __init__(self, slope):
        super().__init__("nothing leads there")
        self.slope = copied(slope)


class NoAnswer(LevelError):
    """No turn answers in this lap."""

    def __init__(self, lap):
        super().__init__("no turn answers in this lap")
        self.lap = copied(lap)


class BadName(LevelError):
    """A name is none, or is taken."""

    def __init__(self, name):
        super().__init__("the name is none, or is taken")
        self.name = copied(name)


class Clash(LevelError):
    """Names were changed on both sides, and not alike."""

    def __init__(self, names):
        super().__init__("names were changed on both sides")
        self.names = copied(names)


class Missing(LookupError):
    """Something that was named is not there."""


class UnknownName(Missing):
    """There is nothing of this name."""

    def __init__(self, name):
        super().__init__("there is nothing of this name")
        self.name = copied(name)


class NoMoment(Missing):
    """There is no moment of this number."""

    def __init__(self, number):
        super().__init__("there is no moment of this number")
        self.number = copied(number)
