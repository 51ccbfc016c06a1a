"""Books of turns: which turn may follow which, and plans that go by them."""

from ledlevels.errors import NotInside
from ledlevels.fractions import ZERO, ascending, divided, is_number, plus, total
from ledlevels.kept import is_kept_form
from ledlevels.mixing import climbs_fault, mixed
from ledlevels.plans import first_out, thin_lap
from ledlevels.rooms import inside, most_in
from ledlevels.rows import back, is_row, product
from ledlevels.sums import is_worded


def is_lot(value, many):
    """Return whether a value is an ascending tuple of some of so many turns, each once."""
    if not isinstance(value, tuple) or not all([is_number(k) and 0 <= k < many for k in value]):
        return False
    return all([one < other for one, other in zip(value[:-1], value[1:])])


def is_book(value, many):
    """Return whether a value is a book of so many turns."""
    if not isinstance(value, (list, tuple)) or len(value) != many:
        return False
    return all([is_lot(followers, many) for followers in value])


def paths_from(book, first):
    """Return the dict of a tuple of turns for each turn that can be come to: one way there, both ends told."""
    paths, ahead = {first: (first,)}, [first]
    while ahead:
        turn = ahead.pop()
        for follower in book[turn]:
            if follower not in paths:
                paths[follower] = paths[turn] + (follower,)
                ahead.append(follower)
    return paths


def come_to(book, first):
    """Return the ascending list of the turns that can be come to from first."""
    return sorted(list(paths_from(book, first)))


def is_next(book, lot, rest):
    """Return whether none of the rest but the lot's own turns has a follower in the lot."""
    return not any([follower in lot for turn in rest if turn not in lot for follower in book[turn]])


def lots_of(book):
    """Return the list of all lots, each ahead of those to which it leads, the one with the least turn first."""
    reach = [come_to(book, turn) for turn in range(len(book))]
    own = [tuple([other for other in told if turn in reach[other]]) for turn, told in enumerate(reach)]
    lots, rest = [], list(range(len(book)))
    while rest:
        ready = [turn for turn in rest if is_next(book, own[turn], rest)]
        lot = own[ready[0]]
        lots.append(lot)
        rest = [turn for turn in rest if turn not in lot]
    return lots


def follows(book, one, other):
    """Return whether a turn may stand behind another one: it is the same, or a follower."""
    return one == other or other in book[one]


def is_row_by_book(book, turns):
    """Return whether each turn of a list may stand behind the one ahead of it."""
    return all([follows(book, one, other) for one, other in zip(turns[:-1], turns[1:])])


def is_by_book(book, first, plan):
    """Return whether a plan is by the book from first."""
    last = None
    for steps, n in plan:
        turns = [turn for turn, _ in steps]
        # Done once more, a lap's first turn stands behind its last one.
        again = turns + turns[:1] if n != 1 else turns
        is_begun = turns[0] == first if last is None else follows(book, last, turns[0])
        if not is_begun or not is_row_by_book(book, again):
            return False
        last = turns[-1]
    return True


def tour(book, lot, entry):
    """Return the list of turns, from entry on, by which the book leads through a whole lot and to entry again."""
    turns = [entry]
    for turn in lot:
        turns = turns + list(paths_from(book, turns[-1])[turn][1:])
    return turns + list(paths_from(book, turns[-1])[entry][1:-1])


def timed(turns, times):
    """Return the steps of these turns; each turn stands for its time when it comes first, then for no time."""
    steps, done = [], []
    for turn in turns:
        steps.append((turn, ZERO if turn in done else times.get(turn, ZERO)))
        done.append(turn)
    return tuple(steps)


def round_plan(room, rates, place, shares, way_there, turns):
    """Return the plan that goes for no time to the first of the turns, then through them for ever, by these shares."""
    steps, _ = thin_lap(room, rates, [place], [shares.get(k, ZERO) for k in range(len(rates))])
    times = {turn: time for turn, time in steps}
    lap = (timed(turns, times), None)
    if not way_there:
        return (lap,)
    return ((tuple([(turn, ZERO) for turn in way_there]), 1), lap)


def by_book(room, rates, book, first, place):
    """Return ("kept", plan) or ("out", parts); NotInside if the place is not inside the room."""
    if not inside(room, place):
        raise NotInside(0)
    paths, parts = paths_from(book, first), []
    for lot in lots_of(book):
        if lot[0] in paths:
            word, told = mixed([rates[k] for k in lot])
            if word == "mixes":
                shares = {k: share for k, share in zip(lot, told)}
                turns = tour(book, lot, lot[0])
                return ("kept", round_plan(room, rates, place, shares, paths[lot[0]][:-1], turns))
            parts.append((lot, told))
    return ("out", tuple(parts))


def is_part(value, many, levels):
    """Return whether a value is a pair of an ascending tuple of turns, not (), and a row for so many levels."""
    if not isinstance(value, tuple) or len(value) != 2:
        return False
    lot, slope = value
    return is_lot(lot, many) and len(lot) > 0 and is_row(slope, levels)


def is_parts_form(value, many, levels):
    """Return whether a value is a tuple of "out" and a tuple of pairs of turns and a row."""
    if not is_worded(value, "out", 1) or not isinstance(value[1], tuple):
        return False
    return all([is_part(part, many, levels) for part in value[1]])


def is_led_on(book, k, parts):
    """Return whether each follower of a turn is in the lot of one of the parts."""
    return all([any([follower in lot for lot, _ in parts]) for follower in book[k]])


def parts_fault(rates, book, first, parts):
    """Return the first fault of ("out", parts), None if there is none."""
    if not any([first in lot for lot, _ in parts]):
        return ("first",)
    for n, (lot, _) in enumerate(parts):
        for k in lot:
            if not is_led_on(book, k, parts[n:]):
                return ("follower", n, k)
    for n, (lot, slope) in enumerate(parts):
        fault = climbs_fault([rates[k] for k in lot], slope)
        if fault is not None:
            return ("slope", n, lot[fault[1]])
    return None


def judge_book(room, rates, book, first, place, value):
    """Return None if value is a right answer of by_book, else its first fault."""
    if is_parts_form(value, len(rates), len(room)):
        return parts_fault(rates, book, first, value[1])
    if not is_kept_form(value, len(rates)):
        return ("form",)
    if not is_by_book(book, first, value[1]):
        return ("book",)
    told = first_out(room, rates, place, value[1])
    return None if told is None else ("leaves", told[0], told[1])


def part_time(room, rates, lot, slope):
    """Return how long the turns of a lot may stand in turn while slope . place goes from least to greatest."""
    gains = ascending([product(slope, rates[k]) for k in lot])
    return divided(plus(most_in(room, slope), most_in(room, back(slope))), gains[0])


def book_time(room, rates, parts):
    """Return the time at which each plan by the book is out, by these parts."""
    return total([part_time(room, rates, lot, slope) for lot, slope in parts])
