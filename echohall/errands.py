"""Books of errands that ask one another, their runs, and the machine of all runs that are over."""

from echohall.errors import NoChoice
from echohall.machines import built, is_below, is_rising
from echohall.signs import is_sheet

MOST_ERRANDS = 4
MOST_ROWS = 8


def is_tuple_between(thing, least, most):
    return isinstance(thing, tuple) and least <= len(thing) <= most


def are_numbers(thing, many):
    """Whether a thing is a rising tuple of one or more of the numbers from 0 on that there are many of."""
    if not isinstance(thing, tuple) or not thing:
        return False
    return all(is_below(number, many) for number in thing) and is_rising(thing)


def is_turning(sheet, rows, thing):
    """Whether a thing is a pair of a close and a row of an errand with so many."""
    return is_tuple_between(thing, 2, 2) and thing[0] in sheet[2] and is_below(thing[1], rows)


def are_turnings(sheet, rows, thing):
    if not isinstance(thing, tuple):
        return False
    # Only such pairs can be held against one another, other things perhaps not.
    return all(is_turning(sheet, rows, pair) for pair in thing) and is_rising(thing)


def is_row(sheet, errands, rows, thing):
    """Whether a thing is a row of an errand with so many rows, in a book of so many errands."""
    if not is_tuple_between(thing, 2, 3):
        return False
    if thing[0] == "back":
        return len(thing) == 2 and thing[1] in sheet[2]
    if len(thing) != 3:
        return False
    if thing[0] == "say":
        return thing[1] in sheet[1] and are_numbers(thing[2], rows)
    return thing[0] == "ask" and are_numbers(thing[1], errands) and are_turnings(sheet, rows, thing[2])


def is_errand(sheet, errands, thing):
    if not is_tuple_between(thing, 2, 2) or thing[0] not in sheet[0]:
        return False
    rows = thing[1]
    if not is_tuple_between(rows, 1, MOST_ROWS):
        return False
    return all(is_row(sheet, errands, len(rows), row) for row in rows)


def is_book(thing):
    if not is_tuple_between(thing, 2, 2) or not is_sheet(thing[0]):
        return False
    sheet, errands = thing
    if not is_tuple_between(errands, 1, MOST_ERRANDS):
        return False
    return all(is_errand(sheet, len(errands), errand) for errand in errands)


def rows_back(backs, c):
    """The rows of those pairs that have this close."""
    return [row for close, row in backs if close == c]


class Run:
    """A run of a book, as far as it has been led."""

    def __init__(self, book):
        self.errands = book[1]
        self.letters = []
        self.errand = 0
        self.row = 0
        self.askers = []

    def now(self):
        """The row at which the run is."""
        return self.errands[self.errand][1][self.row]

    def is_over(self):
        return self.now()[0] == "back" and not self.askers

    def choices(self):
        """What can be taken here, by its place."""
        row = self.now()
        if row[0] == "say":
            return list(row[2])
        if row[0] == "ask":
            return list(row[1])
        if not self.askers:
            return []
        errand, asker = self.askers[-1]
        return rows_back(self.errands[errand][1][asker][2], row[1])

    def choose(self, taken):
        """Make a step: what is taken is one of the choices."""
        row = self.now()
        if row[0] == "say":
            self.letters.append(row[1])
            self.row = taken
        elif row[0] == "ask":
            self.letters.append(self.errands[taken][0])
            self.askers.append((self.errand, self.row))
            self.errand, self.row = taken, 0
        else:
            self.letters.append(row[1])
            self.errand = self.askers.pop()[0]
            self.row = taken


def run_of(book, choices):
    run = Run(book)
    for place, choice in enumerate(choices):
        given = run.choices()
        if not 0 <= choice < len(given):
            raise NoChoice(place)
        run.choose(given[choice])
    return (run.letters, run.is_over())


def machine_of(book):
    sheet, errands = book
    # A room for each row; at an open the mark tells who asked.
    rooms = rooms_of(errands)
    asking = [place for place in rooms if row_at(errands, place)[0] == "ask"]
    marks = {place: mark for mark, place in enumerate(asking)}
    moves = []
    for place in rooms:
        row = row_at(errands, place)
        if row[0] == "say":
            moves += [("plain", rooms[place], row[1], rooms[(place[0], turn)]) for turn in row[2]]
        elif row[0] == "ask":
            moves += asking_moves(errands, rooms, place, marks[place])
    lasts = [rooms[place] for place in rooms if place[0] == 0 and row_at(errands, place)[0] == "back"]
    return built(sheet, len(rooms), len(marks), [0], lasts, moves)


def rooms_of(errands):
    """A number for each (errand, row)."""
    places = [(errand, row) for errand, told in enumerate(errands) for row in range(len(told[1]))]
    return {place: room for room, place in enumerate(places)}


def row_at(errands, place):
    return errands[place[0]][1][place[1]]


def asking_moves(errands, rooms, place, mark):
    """The moves by which errands are asked at a place, and those by which they come back to it."""
    kind, asked, backs = row_at(errands, place)
    moves = []
    for errand in asked:
        a, rows = errands[errand]
        moves.append(("open", rooms[place], a, mark, rooms[(errand, 0)]))
        for at, row in enumerate(rows):
            if row[0] == "back":
                onward = [rooms[(place[0], turn)] for turn in rows_back(backs, row[1])]
                moves += [("close", rooms[(errand, at)], mark, row[1], room) for room in onward]
    return moves
