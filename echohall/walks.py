"""The walks of a machine, and bars where there is none."""

from echohall.nests import need_shut
from echohall.steps import Steps, begun, has_bit, is_begin, pairs_behind, rooms_in


def lists_along(machine, steps, word, told):
    """The least lists that a bar must have: the pairs of all walks so far, ahead of each place."""
    lists = [begun(machine)]
    for place in range(len(word)):
        lists.append(pairs_behind(steps, word, told, lists, place))
    return lists


def good_ends(machine, pairs):
    """The pairs with a last room."""
    return [(o, p) for o, p in pairs if p in machine[4]]


def walk(machine, word):
    told = need_shut(machine[0], word)
    steps = Steps(machine)
    lists = lists_along(machine, steps, word, told)
    ends = good_ends(machine, lists[-1])
    if not ends:
        return ("bar", lists)
    return ("walk", traced(steps, word, told, lists, ends[0]))


def lets(machine, word):
    told = need_shut(machine[0], word)
    lists = lists_along(machine, Steps(machine), word, told)
    return len(good_ends(machine, lists[-1])) > 0


def traced(steps, word, told, lists, pair):
    """The moves of a walk that comes to the pair behind the last letter."""
    moves = [None] * len(word)
    # Words nest deeper than calls may, so what is left to do is kept in a list.
    waiting = [(len(word), pair)]
    while waiting:
        place, (o, p) = waiting.pop()
        at = place - 1
        if place == 0 or is_begin(told, at):
            continue
        if told[at] is None:
            q = room_ahead(steps, word[at], lists[at], o, p)
            moves[at] = ("plain", q, word[at], p)
            waiting.append((at, (o, q)))
        else:
            start = told[at]
            q, m, r, s = rooms_around(steps, (word[start], word[at]), lists[start], lists[at], (o, p))
            moves[start] = ("open", q, word[start], m, r)
            moves[at] = ("close", s, m, word[at], p)
            waiting.append((start, (o, q)))
            waiting.append((at, (r, s)))
    return moves


def room_ahead(steps, b, pairs, o, p):
    """A room q with (o, q) among the pairs from which the plain b leads to p."""
    found = [q for x, q in pairs if x == o and has_bit(steps.by_plain(q, b), p)]
    return found[0]


def rooms_around(steps, letters, outer, inner, pair):
    """Rooms and a mark (q, m, r, s): an open leads from q to r, a close from s to the pair's room."""
    a, c = letters
    o, p = pair
    held = {(x, q): True for x, q in outer}
    for r, s in inner:
        openers = steps.into(a, r)
        for m, rooms in steps.by_close(s, c).items():
            if has_bit(rooms, p):
                fits = [q for q in rooms_in(openers.get(m, 0)) if (o, q) in held]
                if fits:
                    return (fits[0], m, r, s)
    return None
