"""Sums of rows by amounts of any signs."""

from ledlevels.fractions import ONE, ZERO, divided
from ledlevels.rows import product, scaled, taken
from ledlevels.sums import first_off, is_told


def first_leading(table, place, top):
    """Return the number of the first line, from top on, that is not 0 at this place, or None."""
    for k in range(top, len(table)):
        if table[k][place] != ZERO:
            return k
    return None


def swept(lines, many):
    """Sweep lines by one another, so that each of the first so many places that can has a 1 in one line.

    Return the pair of the list of the lines, those with such a 1 ahead, and the
    list of the places of these; all other lines are 0 at these places, and lines
    without one at all of the first so many places.
    """
    table, leads = list(lines), []
    for place in range(many):
        top = len(leads)
        k = first_leading(table, place, top)
        if k is not None:
            lead = scaled(table[k], divided(ONE, table[k][place]))
            rest = [
                line if line[place] == ZERO else taken(line, scaled(lead, line[place]))
                for line in table[:k] + table[k + 1:]
            ]
            table = rest[:top] + [lead] + rest[top:]
            leads.append(place)
    return table, leads


def level_lines(columns, target):
    """Return, for each level, the line of the columns' fractions at it, with target's behind."""
    return [tuple([column[level] for column in columns]) + (goal,) for level, goal in enumerate(target)]


def rank(rows):
    """Return the greatest number of rows of which none is a sum of the other ones times fractions."""
    _, leads = swept(rows, len(rows[0]))
    return len(leads)


def only_amounts(columns, target):
    """Return the amounts, of any signs, that reach target, if these alone do, else None."""
    many = len(columns)
    table, leads = swept(level_lines(columns, target), many + 1)
    if leads != list(range(many)):
        return None
    return tuple([line[many] for line in table[:many]])


def solved(columns, target):
    """Return ("solved", amounts) or ("bars", row)."""
    many, levels = len(columns), len(target)
    # What each line has behind target's fraction tells of which levels it is made.
    marks = [tuple([ONE if k == level else ZERO for k in range(levels)]) for level in range(levels)]
    lines = [line + mark for line, mark in zip(level_lines(columns, target), marks)]
    table, leads = swept(lines, many)
    for line in table[len(leads):]:
        if line[many] != ZERO:
            return ("bars", line[many + 1:])
    found = {place: line[many] for place, line in zip(leads, table)}
    return ("solved", tuple([found.get(k, ZERO) for k in range(many)]))


def bars_fault(columns, target, row):
    """Return the first fault of ("bars", row), None if there is none."""
    for k, column in enumerate(columns):
        if product(row, column) != ZERO:
            return ("column", k)
    if product(row, target) == ZERO:
        return ("target",)
    return None


def judge_solved(columns, target, value):
    """Return None if value is a right answer of solved, else its first fault."""
    if is_told(value, "bars", (len(target),)):
        return bars_fault(columns, target, value[1])
    if not is_told(value, "solved", (len(columns),)):
        return ("form",)
    level = first_off(columns, value[1], target)
    return None if level is None else ("sum", level)
