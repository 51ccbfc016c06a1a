"""Fractions, rows, rooms and plans as texts, and read from texts."""

from ledlevels.errors import BadText
from ledlevels.fractions import is_fraction, is_less
from ledlevels.rows import MOST_LEVELS

FIGURES = "0123456789"
MOST_FIGURES = 200
CHUNK = 64


def integer_text(n):
    """Return the decimal figures of an integer, with "-" ahead if it is below 0."""
    # Python itself refuses to write integers of more than 4300 figures at once.
    unit = 10 ** 64
    rest, parts = abs(n), []
    while rest >= unit:
        rest, low = divmod(rest, unit)
        parts.append(str(low).zfill(CHUNK))
    parts.append(str(rest))
    return ("-" if n < 0 else "") + "".join(parts[::-1])


def fraction_text(x):
    """Return the text of a fraction."""
    if x[1] == 1:
        return integer_text(x[0])
    return integer_text(x[0]) + "/" + integer_text(x[1])


def row_text(row):
    """Return the text of a row."""
    return "(" + " ".join([fraction_text(x) for x in row]) + ")"


def level_text(level):
    """Return the text of one level of a room."""
    return "[" + fraction_text(level[0]) + " " + fraction_text(level[1]) + "]"


def room_text(room):
    """Return the text of a room."""
    return " ".join([level_text(level) for level in room])


def step_text(step):
    """Return the text of one step of a plan."""
    return integer_text(step[0]) + ":" + fraction_text(step[1])


def lap_text(lap):
    """Return the text of one lap of a plan."""
    steps, n = lap
    often = "" if n is None else integer_text(n)
    return "(" + " ".join([step_text(step) for step in steps]) + ")*" + often


def plan_text(plan):
    """Return the text of a plan."""
    return " ".join([lap_text(lap) for lap in plan])


# Each function called ..._from reads one thing of a text, from the place at, and
# returns it with the place behind it.


def check_text(text):
    """Raise BadText if a value is no string."""
    if not isinstance(text, str):
        raise BadText(0)


def check_end(text, at):
    """Raise BadText if a text goes on at this place."""
    if at < len(text):
        raise BadText(at)


def is_at(text, at, sign):
    """Return whether this sign stands at this place of a text."""
    return text[at:at + 1] == sign


def is_figure_at(text, at):
    """Return whether a figure stands at this place of a text."""
    return at < len(text) and text[at] in FIGURES


def behind_sign(text, at, sign):
    """Return the place behind a sign that has to stand here."""
    if not is_at(text, at, sign):
        raise BadText(at)
    return at + 1


def number_from(text, at):
    """Read an integer from 0 on."""
    if not is_figure_at(text, at):
        raise BadText(at)
    end = at + 1
    if not is_at(text, at, "0"):
        while end - at < MOST_FIGURES and is_figure_at(text, end):
            end += 1
    return int(text[at:end]), end


def integer_from(text, at):
    """Read an integer."""
    if not is_at(text, at, "-"):
        return number_from(text, at)
    if is_at(text, at + 1, "0"):
        raise BadText(at + 1)
    n, end = number_from(text, at + 1)
    return -n, end


def over_from(text, at, n):
    """Read what may follow the upper number n of a fraction; give the fraction."""
    if not is_at(text, at, "/"):
        return (n, 1), at
    d, end = number_from(text, at + 1)
    if d == 1 or not is_fraction((n, d)):
        raise BadText(end)
    return (n, d), end


def fraction_from(text, at):
    """Read a fraction."""
    n, end = integer_from(text, at)
    return over_from(text, end, n)


def time_from(text, at):
    """Read a fraction from 0 on."""
    n, end = number_from(text, at)
    return over_from(text, end, n)


def some_from(text, at, read, most):
    """Read by this function one thing or more, up to most, one blank between two."""
    part, at = read(text, at)
    parts = [part]
    while is_at(text, at, " ") and (most is None or len(parts) < most):
        part, at = read(text, at + 1)
        parts.append(part)
    return tuple(parts), at


def row_from(text, at):
    """Read a row."""
    row, at = some_from(text, behind_sign(text, at, "("), fraction_from, MOST_LEVELS)
    return row, behind_sign(text, at, ")")


def level_from(text, at):
    """Read one level of a room."""
    low, at = fraction_from(text, behind_sign(text, at, "["))
    high, at = fraction_from(text, behind_sign(text, at, " "))
    at = behind_sign(text, at, "]")
    if not is_less(low, high):
        raise BadText(at)
    return (low, high), at


def room_from(text, at):
    """Read a room."""
    return some_from(text, at, level_from, MOST_LEVELS)


def step_from(text, at):
    """Read one step of a plan."""
    turn, at = number_from(text, at)
    time, at = time_from(text, behind_sign(text, at, ":"))
    return (turn, time), at


def lap_from(text, at):
    """Read one lap of a plan."""
    steps, at = some_from(text, behind_sign(text, at, "("), step_from, None)
    at = behind_sign(text, behind_sign(text, at, ")"), "*")
    if is_figure_at(text, at):
        n, at = number_from(text, at)
        if n == 0:
            raise BadText(at)
        return (steps, n), at
    check_end(text, at)
    if all([time[0] == 0 for _, time in steps]):
        raise BadText(at)
    return (steps, None), at


def read_fraction(text):
    """Return the fraction that has this text; BadText if there is none."""
    check_text(text)
    x, at = fraction_from(text, 0)
    check_end(text, at)
    return x


def read_row(text):
    """Return the row that has this text; BadText if there is none."""
    check_text(text)
    row, at = row_from(text, 0)
    check_end(text, at)
    return row


def read_room(text):
    """Return the room that has this text; BadText if there is none."""
    check_text(text)
    room, at = room_from(text, 0)
    check_end(text, at)
    return room


def read_plan(text):
    """Return the plan that has this text; BadText if there is none."""
    check_text(text)
    if text == "":
        return ()
    plan, at = some_from(text, 0, lap_from, None)
    check_end(text, at)
    return plan
