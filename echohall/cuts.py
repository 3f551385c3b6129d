"""Where shut words can be cut, so that machines let by what stands between.

Rooms are led along a word from one outermost part to the next, each with its
start: a place from which what was let by there could begin.
"""

from echohall.machines import is_rising
from echohall.nests import need_shut
from echohall.put import need_one_sheet
from echohall.steps import Steps, begun, pairs_behind


def parts_along(told):
    """(begin, end) for each plain and each open and its close that nothing stands around."""
    parts = []
    place = 0
    while place < len(told):
        end = place + 1 if told[place] is None else told[place] + 1
        parts.append((place, end))
        place = end
    return parts


def pairs_between(steps, word, told, part, pairs):
    """The pairs to which the letters from a place to another one lead from these pairs."""
    begin, end = part
    lists = {begin: pairs}
    for place in range(begin, end):
        lists[place + 1] = pairs_behind(steps, word, told, lists, place)
    return lists[end]


def led_on(steps, word, told, part, starts):
    """The rooms to which a part leads from those of the starts, each with the least start."""
    led = {}
    for p, q in pairs_between(steps, word, told, part, [(p, p) for p in starts]):
        led[q] = min(starts[p], led.get(q, starts[p]))
    return led


def begin_at(starts, firsts, place):
    """Let words begin at a place, too; a lesser start stays."""
    for room in firsts:
        starts.setdefault(room, place)


def ends_in(starts, lasts):
    """The starts of those words that could end here."""
    return [starts[room] for room in lasts if room in starts]


def cut_of(one, other, word):
    need_one_sheet(one, other)
    told = need_shut(one[0], word)
    ahead, behind = Steps(one), Steps(other)
    rooms = {room: 0 for room in one[3]}
    starts = {}
    if ends_in(rooms, one[4]):
        begin_at(starts, other[3], 0)
    for part in parts_along(told):
        rooms = led_on(ahead, word, told, part, rooms)
        starts = led_on(behind, word, told, part, starts)
        if ends_in(rooms, one[4]):
            begin_at(starts, other[3], part[1])
    return min(ends_in(starts, other[4]), default=None)


def cuts_of(machine, word):
    told = need_shut(machine[0], word)
    steps = Steps(machine)
    starts = {room: 0 for room in machine[3]}
    ahead = {0: None}
    for part in parts_along(told):
        starts = led_on(steps, word, told, part, starts)
        ends = ends_in(starts, machine[4])
        if ends:
            ahead[part[1]] = ends[0]
            begin_at(starts, machine[3], part[1])
    return traced_back(ahead, len(word)) if len(word) in ahead else None


def traced_back(ahead, place):
    """The places that lead to this one, each told by the one behind it."""
    places = []
    while place is not None:
        places.append(place)
        place = ahead[place]
    return places[::-1]


def are_cuts(machine, word, places):
    told = need_shut(machine[0], word)
    if not places or places[0] != 0 or places[-1] != len(word) or not is_rising(places):
        return False
    outermost = {end: True for begin, end in parts_along(told)}
    if not all(place in outermost for place in places[1:]):
        return False
    steps = Steps(machine)
    for at in range(len(places) - 1):
        ends = pairs_between(steps, word, told, (places[at], places[at + 1]), begun(machine))
        if not any(p in machine[4] for o, p in ends):
            return False
    return True
