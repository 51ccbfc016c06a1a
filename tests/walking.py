"""Walks of the tests' own: rooms, places and plans by chance, and where a plan leads, step by step."""

from fractions import Fraction
from itertools import product as all_of

from tests.helping import all_basic, are_pairs, dot, is_pair, pair, random_pair, random_row, real

NOUGHT = Fraction(0)


def random_room(rng, levels, most):
    """A room with numbers of at most this size."""
    out = []
    while len(out) < levels:
        low, high = random_pair(rng, most), random_pair(rng, most)
        if real(low) < real(high):
            out.append((low, high))
    return tuple(out)


def between(rng, low, high):
    """A fraction between two others, of no more than six figures where there is one."""
    share = Fraction(rng.randint(1, 99), 100)
    x = (real(low) + (real(high) - real(low)) * share)
    short = x.limit_denominator(999999)
    return pair(short if real(low) < short < real(high) else x)


def random_place(rng, room, at_walls=0.5):
    """A place of a room, some of its levels at a wall."""
    return tuple(rng.choice(level) if rng.random() < at_walls else between(rng, *level) for level in room)


def kinds_of_places(rng, room):
    """A place for each way to touch the room's walls, none, some and all of them."""
    return [
        tuple(between(rng, *level) if side == 0 else level[side < 2] for level, side in zip(room, sides))
        for sides in all_of(*[(0, 1, 2)] * len(room))
    ]


def random_rates(rng, many, levels, most, noughts=0.3):
    """A list of rates."""
    return [random_row(rng, levels, most, noughts=noughts) for _ in range(many)]


def random_time(rng, most, noughts=0.2):
    """A fraction from 0 on."""
    return (0, 1) if rng.random() < noughts else random_pair(rng, most, False)


def random_steps(rng, turns, many, most):
    """The steps of a lap."""
    return tuple((rng.randrange(turns), random_time(rng, most)) for _ in range(rng.randint(1, many)))


def random_plan(rng, turns, most=9, laps=3, steps=4, often=4):
    """A plan that is not for ever."""
    return tuple((random_steps(rng, turns, steps, most), rng.randint(1, often)) for _ in range(rng.randint(0, laps)))


def endless_plan(rng, turns, most=9, laps=2, steps=4, often=3):
    """A plan for ever."""
    last = random_steps(rng, turns, steps, most)
    while not any(real(time) for _, time in last):
        last = random_steps(rng, turns, steps, most)
    return random_plan(rng, turns, most, laps, steps, often) + ((last, None),)


def single_steps(plan, laps=None):
    """The steps of a plan one by one, of a lap for ever so many laps."""
    for steps, n in plan:
        for _ in range(laps if n is None else n):
            yield from steps


def own_time(plan):
    """How long a plan is, lap by lap."""
    return sum((real(time) for _, time in single_steps(plan)), NOUGHT)


def grown(row, rate, time):
    """A row of Fractions behind a step."""
    return [x + real(y) * time for x, y in zip(row, rate)]


def own_end(rates, start, plan):
    """The Fractions behind a plan, lap by lap."""
    row = [real(x) for x in start]
    for turn, time in single_steps(plan):
        row = grown(row, rates[turn], real(time))
    return row


def own_far_end(rates, start, plan):
    """The same for laps that are done often: each lap is walked once."""
    row = [real(x) for x in start]
    for steps, n in plan:
        by = own_end(rates, [(0, 1)] * len(row), ((steps, 1),))
        row = [x + n * y for x, y in zip(row, by)]
    return row


def own_place_at(rates, start, plan, time, laps=None):
    """The Fractions at a time of a plan; None if the plan is shorter."""
    row, rest = [real(x) for x in start], time
    for turn, length in single_steps(plan, laps):
        stands = min(rest, real(length))
        row = grown(row, rates[turn], stands)
        rest -= stands
    return row if rest == 0 else None


def own_walls(levels):
    """All walls, ascending."""
    return [(i, s) for i in range(levels) for s in (-1, 1)]


def own_gap(room, row, wall):
    """How far a row of Fractions is from a wall, below 0 if it is beyond."""
    i, s = wall
    return s * (real(room[i][1 if s > 0 else 0]) - row[i])


def own_touched(room, place):
    """The walls that a place touches."""
    row = [real(x) for x in place]
    return tuple(wall for wall in own_walls(len(room)) if own_gap(room, row, wall) == 0)


def own_out_in_lap(room, rates, row, steps):
    """Walk a lap: the pair of the first time and wall, or None; and the row behind it."""
    gone = NOUGHT
    for turn, time in steps:
        found = []
        for number, wall in enumerate(own_walls(len(room))):
            pace = real(rates[turn][wall[0]]) * wall[1]
            if pace > 0 and real(time) > 0 and own_gap(room, row, wall) / pace < real(time):
                found.append((own_gap(room, row, wall) / pace, number))
        if found:
            first = min(found)
            return (gone + first[0], own_walls(len(room))[first[1]]), row
        row = grown(row, rates[turn], real(time))
        gone += real(time)
    return None, row


def own_first_out(room, rates, start, plan):
    """The pair of the first time, as a fraction, and wall at which a plan is out, or None.

    If the first lap stays, the laps that stay are those up to some number, which is found by halving.
    """
    row, gone = [real(x) for x in start], NOUGHT
    for steps, n in plan:
        by = own_end(rates, [(0, 1)] * len(room), ((steps, 1),))
        once = own_time(((steps, 1),))

        def out_in(lap):
            return own_out_in_lap(room, rates, [x + lap * y for x, y in zip(row, by)], steps)[0]

        def beyond(lap):
            ahead = [x + lap * y for x, y in zip(row, by)]
            return any(own_gap(room, ahead, wall) < 0 for wall in own_walls(len(room))) or out_in(lap) is not None

        many = n
        if n is None:
            if not any(by):
                told = out_in(0)
                return None if told is None else (pair(gone + told[0]), told[1])
            many = 1
            while not beyond(many - 1):
                many *= 2
        if beyond(0) or beyond(many - 1):
            low, high = 0, 0 if beyond(0) else many - 1
            while low < high:
                half = (low + high) // 2
                low, high = (low, half) if beyond(half) else (half + 1, high)
            time, wall = out_in(low)
            return (pair(gone + low * once + time), wall)
        row = [x + n * y for x, y in zip(row, by)]
        gone += n * once
    return None


def plain_walk(room, rates, start, plan):
    """The same for a plan of few laps that is not for ever, each of them walked."""
    row, gone = [real(x) for x in start], NOUGHT
    for steps, n in plan:
        for _ in range(n):
            told, row = own_out_in_lap(room, rates, row, steps)
            if told is not None:
                return (pair(gone + told[0]), told[1])
            gone += own_time(((steps, 1),))
    return None


def own_is_plan(value, many):
    """Whether a value is a plan, by the words of the document."""
    if type(value) is not tuple:
        return False
    for k, lap in enumerate(value):
        if type(lap) is not tuple or len(lap) != 2 or type(lap[0]) is not tuple or not lap[0]:
            return False
        for step in lap[0]:
            if type(step) is not tuple or len(step) != 2 or type(step[0]) is not int or not 0 <= step[0] < many:
                return False
            if not is_pair(step[1]) or step[1][0] < 0:
                return False
        if lap[1] is None:
            if k + 1 < len(value) or not any(step[1][0] for step in lap[0]):
                return False
        elif type(lap[1]) is not int or lap[1] < 1:
            return False
    return True


def figures(value):
    """The greatest number of figures of an integer within a value."""
    if type(value) is int:
        return len(str(abs(value)))
    if type(value) in (tuple, list):
        return max([figures(part) for part in value], default=0)
    return 0


def own_crosses(rate, wall):
    return wall[1] * real(rate[wall[0]]) > 0


def own_leaves(rate, wall):
    return wall[1] * real(rate[wall[0]]) < 0


def own_rounds(rates, walls, lot):
    """What is let and what stays, one wall taken off at a time."""
    rest = sorted(walls)
    while True:
        free = [k for k in sorted(set(lot)) if not any(own_crosses(rates[k], wall) for wall in rest)]
        off = [wall for wall in rest if any(own_leaves(rates[k], wall) for k in free)]
        if not off:
            return free, rest
        rest.remove(off[-1])


def turned_about(rates):
    """All rates times -1."""
    return [tuple(pair(-real(x)) for x in rate) for rate in rates]


def own_used(rates, lot, by):
    """The turns of a lot that have a time above 0 in some times that reach a row; None if none reach it."""
    columns = [rates[k] for k in lot]
    reached = all_basic(columns, by)
    if not reached:
        return None
    rounds = all_basic([column + ((1, 1),) for column in columns], ((0, 1),) * len(by) + ((1, 1),))
    return [k for n, k in enumerate(lot) if any(amounts[n] > 0 for amounts in reached + rounds)]


def own_lot(room, rates, one, other, lot):
    """What is left of a lot; None if there is no way by it."""
    by = tuple(pair(real(y) - real(x)) for x, y in zip(one, other))
    while True:
        ahead = own_used(rates, lot, by)
        if ahead is None:
            return None
        ahead = own_rounds(turned_about(rates), own_touched(room, other), ahead)[0]
        ahead = own_rounds(rates, own_touched(room, one), ahead)[0]
        if ahead == list(lot):
            return tuple(lot)
        lot = ahead


def own_holds(room, rates, one, other, lot, paper):
    """Whether a paper holds of a lot, by the words of the document."""
    if paper[0] in ("ahead", "behind"):
        _, k, walls = paper
        place, way = (one, rates) if paper[0] == "ahead" else (other, turned_about(rates))
        if k not in lot or any(wall not in own_touched(room, place) for wall in walls):
            return False
        crossing = [j for j in range(len(rates)) if any(own_crosses(way[j], wall) for wall in walls)]
        leaving = [j for j in range(len(rates)) if any(own_leaves(way[j], wall) for wall in walls)]
        return k in crossing and all(j in crossing or j not in leaving for j in lot)
    gains = {j: dot(paper[-1], rates[j]) for j in lot}
    by = dot(paper[-1], other) - dot(paper[-1], one)
    if any(gain < 0 for gain in gains.values()):
        return False
    if paper[0] == "end":
        return by < 0
    return paper[1] in lot and gains[paper[1]] > 0 and by <= 0


def own_paper_form(value, turns, levels):
    """Whether a value has the form of a paper."""
    if type(value) is not tuple or not value or type(value[0]) is not str:
        return False
    if value[0] == "end":
        return len(value) == 2 and are_pairs(value[1], levels)
    if len(value) != 3 or type(value[1]) is not int or not 0 <= value[1] < turns:
        return False
    if value[0] == "slope":
        return are_pairs(value[2], levels)
    return value[0] in ("ahead", "behind") and own_walls_form(value[2], levels)


def own_walls_form(value, levels):
    """Whether a value is an ascending tuple of walls, each once."""
    if type(value) is not tuple:
        return False
    for wall in value:
        if type(wall) is not tuple or len(wall) != 2 or not all(type(x) is int for x in wall):
            return False
    return list(value) == [wall for wall in own_walls(levels) if wall in value]


def own_judge_way(room, rates, one, other, value):
    """What judge_way has to tell, by the words of the document."""
    if type(value) is not tuple or len(value) != 2 or type(value[0]) is not str or type(value[1]) is not tuple:
        return ("form",)
    word, told = value
    if word == "way" and own_is_plan(told, len(rates)) and not (told and told[-1][1] is None):
        out = own_first_out(room, rates, one, told)
        if out is not None:
            return ("out",) + out
        end = tuple(pair(x) for x in own_far_end(rates, one, told))
        return None if end == other else ("ends", end)
    if word != "fall" or not told or not all(own_paper_form(paper, len(rates), len(room)) for paper in told):
        return ("form",)
    if [n for n, paper in enumerate(told) if paper[0] == "end"] != [len(told) - 1]:
        return ("form",)
    lot = list(range(len(rates)))
    for n, paper in enumerate(told):
        if not own_holds(room, rates, one, other, lot, paper):
            return ("paper", n)
        lot = [k for k in lot if k != paper[1]]
    return None
