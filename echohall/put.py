"""Machines put together."""

from echohall.errors import NoLetter, NoOneWay, NoSheet
from echohall.machines import built, is_one_way, way_of
from echohall.steps import Steps, rooms_in


def need_one_sheet(one, other):
    if one[0] != other[0]:
        raise NoSheet("the machines are of two sheets")


def renamed(move, rooms, marks):
    """A move with other rooms and marks, each told by the old one."""
    if move[0] == "plain":
        return ("plain", rooms[move[1]], move[2], rooms[move[3]])
    if move[0] == "open":
        return ("open", rooms[move[1]], move[2], marks[move[3]], rooms[move[4]])
    return ("close", rooms[move[1]], marks[move[2]], move[3], rooms[move[4]])


def shift(many, by):
    """New numbers for so many old ones, each greater by as much."""
    return [number + by for number in range(many)]


def joined(one, other):
    need_one_sheet(one, other)
    rooms = shift(other[1], one[1])
    # A walk stays among the rooms of one part, so both may lay the same marks.
    marks = shift(other[2], 0)
    firsts = list(one[3]) + [rooms[room] for room in other[3]]
    lasts = list(one[4]) + [rooms[room] for room in other[4]]
    moves = list(one[5]) + [renamed(move, rooms, marks) for move in other[5]]
    return built(one[0], one[1] + other[1], max(one[2], other[2]), firsts, lasts, moves)


def met(one, other):
    need_one_sheet(one, other)
    firsts = [(p, x) for p in one[3] for x in other[3]]
    found, moves = pair_moves(one, other, firsts)
    pairs = sorted(found)
    rooms = {pair: number for number, pair in enumerate(pairs)}
    laid = sorted({move[3] for move in moves if move[0] == "open"})
    marks = {mark: number for number, mark in enumerate(laid)}
    # A mark that no open lays is taken by no close of a shut word.
    used = [move for move in moves if move[0] != "close" or move[2] in marks]
    lasts = [rooms[(p, x)] for p, x in pairs if p in one[4] and x in other[4]]
    told = [renamed(move, rooms, marks) for move in used]
    return built(one[0], len(pairs), len(laid), [rooms[pair] for pair in firsts], lasts, told)


def pair_moves(one, other, firsts):
    """The pairs of rooms that come up from the first ones, as keys, and the moves between them."""
    marks = marks_together(one, other)
    left, right = Steps(one), Steps(other)
    found = {pair: True for pair in firsts}
    waiting = list(firsts)
    moves = []
    while waiting:
        pair = waiting.pop()
        for move in moves_of_pair(one[0], left, right, marks, pair):
            moves.append(move)
            if move[-1] not in found:
                found[move[-1]] = True
                waiting.append(move[-1])
    return (found, moves)


def marks_together(one, other):
    """The pairs of marks that one open can lay in both machines, as keys."""
    told = {}
    for a in one[0][0]:
        for m in marks_by(one, a):
            for n in marks_by(other, a):
                told[(m, n)] = True
    return told


def marks_by(machine, a):
    return sorted({move[3] for move in machine[5] if move[0] == "open" and move[2] == a})


def moves_of_pair(sheet, left, right, marks, pair):
    """The moves from a pair of rooms, of which both make a step by one letter."""
    p, x = pair
    told = []
    for b in sheet[1]:
        told += [("plain", pair, b, led) for led in pairs_of(left.by_plain(p, b), right.by_plain(x, b))]
    for a in sheet[0]:
        for mark, led in marked_pairs(left.by_open(p, a), right.by_open(x, a)):
            told.append(("open", pair, a, mark, led))
    for c in sheet[2]:
        for mark, led in marked_pairs(left.by_close(p, c), right.by_close(x, c)):
            if mark in marks:
                told.append(("close", pair, mark, c, led))
    return told


def pairs_of(left, right):
    return [(q, y) for q in rooms_in(left) for y in rooms_in(right)]


def marked_pairs(left, right):
    """Pairs of marks, each with a pair of rooms to which it leads."""
    return [((m, n), led) for m in left for n in right for led in pairs_of(left[m], right[n])]


def beginnings(moves, firsts, rooms):
    """The moves that begin a shut word from a first room, made from each of these rooms instead."""
    starts = [move for move in moves if move[0] != "close" and move[1] in firsts]
    return [move[:1] + (room,) + move[2:] for move in starts for room in rooms]


def in_row(one, other):
    need_one_sheet(one, other)
    rooms = shift(other[1], one[1])
    # Other marks for the other: so it takes none that the one has left, and goes on only where the one is shut.
    marks = shift(other[2], one[2])
    behind = [renamed(move, rooms, marks) for move in other[5]]
    firsts = [rooms[room] for room in other[3]]
    lasts = [rooms[room] for room in other[4]]
    moves = list(one[5]) + behind + beginnings(behind, firsts, one[4])
    if any(room in lasts for room in firsts):
        lasts = lasts + list(one[4])
    return built(one[0], one[1] + other[1], one[2] + other[2], one[3], lasts, moves)


def again(machine):
    sheet, rooms, marks, firsts, lasts, moves = machine
    # A word may begin anew only where no open waits, so such rooms and marks are told apart from those within.
    inner, others = shift(rooms, rooms), shift(marks, marks)
    within = [renamed(move, inner, others) for move in moves]
    level = [outermost(move, rooms) for move in moves]
    start = 2 * rooms
    ends = list(lasts) + [start]
    told = within + level + beginnings(level, firsts, ends)
    return built(sheet, start + 1, 2 * marks, [start], ends, told)


def outermost(move, rooms):
    """The move where no other open waits: what stands within has rooms that are greater by so many."""
    if move[0] == "plain":
        return move
    if move[0] == "open":
        return move[:4] + (move[4] + rooms,)
    return move[:1] + (move[1] + rooms,) + move[2:]


def wrapped(machine, a, c):
    sheet, rooms, marks, firsts, lasts, moves = machine
    if a not in sheet[0]:
        raise NoLetter(0)
    if c not in sheet[2]:
        raise NoLetter(1)
    start, end = rooms, rooms + 1
    into = [("open", start, a, marks, room) for room in firsts]
    out = [("close", room, marks, c, end) for room in lasts]
    return built(sheet, rooms + 2, marks + 1, [start], [end], list(moves) + into + out)


def turned(machine):
    if not is_one_way(machine):
        raise NoOneWay("only a one-way machine is turned")
    sheet, rooms, marks, firsts, lasts, moves = machine
    others = [room for room in range(rooms) if room not in lasts]
    marks = max(marks, 1)
    if not missing(sheet, rooms, marks, moves):
        return built(sheet, rooms, marks, firsts, others, moves)
    # Once lost a walk stays lost, so it's all one which mark is laid on the way there.
    lost = rooms
    added = [astray(way, lost) for way in missing(sheet, rooms + 1, marks, moves)]
    return built(sheet, rooms + 1, marks, firsts, others + [lost], list(moves) + added)


def missing(sheet, rooms, marks, moves):
    """The ways for which there is no move."""
    known = {way_of(move): True for move in moves}
    ways = [("open", room, a) for room in range(rooms) for a in sheet[0]]
    ways += [("plain", room, b) for room in range(rooms) for b in sheet[1]]
    ways += [("close", room, m, c) for room in range(rooms) for m in range(marks) for c in sheet[2]]
    return [way for way in ways if way not in known]


def astray(way, lost):
    return way + (0, lost) if way[0] == "open" else way + (lost,)
