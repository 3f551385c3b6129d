"""What a machine is, and when it is one way."""

from echohall.signs import is_sheet, is_whole

MOST_ROOMS = 6
MOST_MARKS = 6
MOST_MOVES = 240


def is_below(thing, many):
    """Whether a thing is one of the numbers from 0 on that there are many of."""
    return is_whole(thing) and 0 <= thing < many


def is_rising(row):
    return all(row[at] < row[at + 1] for at in range(len(row) - 1))


def are_rooms(thing, rooms):
    if not isinstance(thing, tuple):
        return False
    return all(is_below(room, rooms) for room in thing) and is_rising(thing)


def is_move(sheet, rooms, marks, thing):
    if not isinstance(thing, tuple) or len(thing) < 4:
        return False
    if not is_below(thing[1], rooms) or not is_below(thing[-1], rooms):
        return False
    if thing[0] == "plain":
        return len(thing) == 4 and thing[2] in sheet[1]
    if len(thing) != 5:
        return False
    if thing[0] == "open":
        return thing[2] in sheet[0] and is_below(thing[3], marks)
    return thing[0] == "close" and is_below(thing[2], marks) and thing[3] in sheet[2]


def are_moves(sheet, rooms, marks, thing):
    if not isinstance(thing, tuple) or len(thing) > MOST_MOVES:
        return False
    # Only moves can be held against one another, other things perhaps not.
    return all(is_move(sheet, rooms, marks, move) for move in thing) and is_rising(thing)


def is_machine(thing):
    if not isinstance(thing, tuple) or len(thing) != 6:
        return False
    sheet, rooms, marks, firsts, lasts, moves = thing
    if not is_sheet(sheet) or not is_whole(rooms) or not is_below(marks, MOST_MARKS + 1):
        return False
    if not 1 <= rooms <= MOST_ROOMS:
        return False
    if not are_rooms(firsts, rooms) or not are_rooms(lasts, rooms):
        return False
    return len(firsts) > 0 and are_moves(sheet, rooms, marks, moves)


def way_of(move):
    """What a one-way machine has at most one move for."""
    return move[:4] if move[0] == "close" else move[:3]


def is_one_way(machine):
    ways = [way_of(move) for move in machine[5]]
    return len(machine[3]) == 1 and len(set(ways)) == len(ways)


def built(sheet, rooms, marks, firsts, lasts, moves):
    """The machine of these parts, each sorted, with nothing in it twice."""
    return (
        sheet,
        rooms,
        marks,
        tuple(sorted(set(firsts))),
        tuple(sorted(set(lasts))),
        tuple(sorted(set(moves))),
    )


def machine_of_all(sheet):
    """The machine of one room that lets by all shut words."""
    opens, plains, closes = sheet
    moves = [("open", 0, a, 0, 0) for a in opens]
    moves += [("plain", 0, b, 0) for b in plains]
    moves += [("close", 0, 0, c, 0) for c in closes]
    return built(sheet, 1, 1, [0], [0], moves)
