"""Ticks: one turn a tick, by whole places of a whole room."""

from ledlevels.errors import TooMany
from ledlevels.fractions import is_number
from ledlevels.rooms import is_place, is_room
from ledlevels.rows import added, is_any_row
from ledlevels.sums import is_worded

MOST_PLACES = 400


def are_whole(fractions):
    """Return whether the lower numbers of all fractions are 1."""
    return all([x[1] == 1 for x in fractions])


def is_whole_room(value):
    """Return whether a value is a whole room."""
    return is_room(value) and all([are_whole(level) for level in value])


def is_whole_row(value):
    """Return whether a value is a row of one to four fractions that is whole."""
    return is_any_row(value) and are_whole(value)


def whole_places(room):
    """Return the ascending list of the room's whole places; TooMany if there are more than 400."""
    many = 1
    for low, high in room:
        many = many * (high[0] - low[0] + 1)
    if many > MOST_PLACES:
        raise TooMany()
    told = [()]
    for low, high in room:
        told = [place + ((n, 1),) for place in told for n in range(low[0], high[0] + 1)]
    return told


def led_tick(room, rates, place, k):
    """Return the place behind a tick of turn k, None if it is none of the room."""
    behind = added(place, rates[k])
    return behind if is_place(room, behind) else None


def moves_from(room, rates, places):
    """Return the dict that has, for each place that can be come to from some places, the list of where turns lead.

    It has None for each turn that leads out of the room.
    """
    moves, ahead = {}, list(places)
    while ahead:
        place = ahead.pop()
        if place not in moves:
            moves[place] = [led_tick(room, rates, place, k) for k in range(len(rates))]
            ahead.extend([z for z in moves[place] if z is not None])
    return moves


def origins(moves):
    """Return the dict that has, for each place, the list of the places from which turns lead to it."""
    told = {place: [] for place in moves}
    for place in moves:
        for z in moves[place]:
            if z is not None:
                told[z].append(place)
    return told


def ranks_of(moves):
    """Return the dict of the greatest number of ticks for each place from which one cannot stay for ever."""
    came_from = origins(moves)
    rest = {place: len([z for z in moves[place] if z is not None]) for place in moves}
    ready = [place for place in moves if rest[place] == 0]
    ranks = {}
    # A place is ready when all places to which it leads have ranks; who leads to a ring never is.
    while ready:
        place = ready.pop()
        ranks[place] = max([ranks[z] + 1 for z in moves[place] if z is not None] + [0])
        for z in came_from[place]:
            rest[z] -= 1
            if rest[z] == 0:
                ready.append(z)
    return ranks


def staying_turn(moves, ranks, place):
    """Return the least turn that leads from a place to one from which one can stay for ever."""
    for k, z in enumerate(moves[place]):
        if z is not None and z not in ranks:
            return k
    return None


def by_ticks(room, rates, place):
    """Return ("ring", steps, ring) or ("ranks", ranks); TooMany as whole_places."""
    whole_places(room)
    moves = moves_from(room, rates, [place])
    ranks = ranks_of(moves)
    if place in ranks:
        return ("ranks", ranks)
    turns, seen = [], {}
    while place not in seen:
        seen[place] = len(turns)
        k = staying_turn(moves, ranks, place)
        turns.append(k)
        place = moves[place][k]
    begin = seen[place]
    return ("ring", tuple(turns[:begin]), tuple(turns[begin:]))


def are_turns(value, many):
    """Return whether a value is a tuple of numbers of some of so many turns."""
    return isinstance(value, tuple) and all([is_number(k) and 0 <= k < many for k in value])


def is_ring_form(value, many):
    """Return whether a value is a tuple of "ring", a tuple of turns and one more, not ()."""
    if not is_worded(value, "ring", 2) or not are_turns(value[1], many):
        return False
    return are_turns(value[2], many) and len(value[2]) > 0


def is_ranks_form(value, room):
    """Return whether a value is a tuple of "ranks" and a dict of whole places of the room with integers from 0 on."""
    if not is_worded(value, "ranks", 1) or not isinstance(value[1], dict):
        return False
    if not all([is_place(room, place) and are_whole(place) for place in value[1]]):
        return False
    return all([is_number(rank) and rank >= 0 for rank in value[1].values()])


def ring_fault(room, rates, place, steps, ring):
    """Return the first fault of ("ring", steps, ring), None if there is none."""
    begin = place
    for n, k in enumerate(steps + ring):
        if n == len(steps):
            begin = place
        place = led_tick(room, rates, place, k)
        if place is None:
            return ("leaves", n)
    return None if place == begin else ("open",)


def ranks_fault(places, moves, ranks):
    """Return the first fault of ("ranks", ranks), told all places and the moves of those that can be come to."""
    for z in places:
        if z in moves and z not in ranks:
            return ("lacks", z)
    for z in places:
        if z in ranks and z not in moves:
            return ("spare", z)
    for place in places:
        if place in moves:
            for k, z in enumerate(moves[place]):
                if z is not None and ranks[z] >= ranks[place]:
                    return ("rank", place, k)
    return None


def judge_ticks(room, rates, place, value):
    """Return None if value is a right answer of by_ticks, else its first fault; TooMany as whole_places."""
    places = whole_places(room)
    if is_ring_form(value, len(rates)):
        return ring_fault(room, rates, place, value[1], value[2])
    if is_ranks_form(value, room):
        return ranks_fault(places, moves_from(room, rates, [place]), value[1])
    return ("form",)


def longest(room, rates, place):
    """Return for how many ticks one can stay in the room, None if for ever; TooMany as whole_places."""
    whole_places(room)
    return ranks_of(moves_from(room, rates, [place])).get(place)


def staying(room, rates):
    """Return the ascending list of the whole places from which one can stay for ever; TooMany as whole_places."""
    places = whole_places(room)
    ranks = ranks_of(moves_from(room, rates, places))
    return [place for place in places if place not in ranks]
