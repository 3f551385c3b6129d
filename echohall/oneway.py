"""Machines made one way: a room for each set of holds that there is."""

from echohall.errors import TooMany
from echohall.machines import built
from echohall.steps import Steps, around, begun, behind_close, behind_open, behind_plain


class Search:
    """Finds all holds behind any letters, level by level.

    A level is what stands between an open and the close that answers it, or
    all that stands in no pair. It is known by the room with which it begins:
    which rooms come in it hangs on nothing else. A close is tried only with
    rooms that come in one level with its open, as others would bring forth
    holds that are behind no letters.
    """

    def __init__(self, machine, limit):
        self.sheet = machine[0]
        self.steps = Steps(machine)
        self.limit = limit
        self.holds = []
        self.numbers = {}
        self.marks = {}
        self.ways = {}
        self.arounds = {}
        self.within = {}
        self.openings = {}
        self.waiting = []
        self.begin_level(self.room_of(begun(machine)))

    def room_of(self, pairs):
        """The room of these holds, a new one if need be; None of no holds."""
        if not pairs:
            return None
        key = tuple(pairs)
        if key not in self.numbers:
            if len(self.holds) >= self.limit:
                raise TooMany(f"more than {self.limit} sets of holds")
            self.numbers[key] = len(self.holds)
            self.holds.append(key)
        return self.numbers[key]

    def begin_level(self, first):
        if first not in self.within:
            self.within[first] = {}
            self.openings[first] = []
            self.come(first, first)

    def come(self, level, room):
        """Note that a room comes in a level."""
        if room is not None and room not in self.within[level]:
            self.within[level][room] = True
            self.waiting.append((level, room))

    def search(self):
        while self.waiting:
            level, room = self.waiting.pop()
            for b in self.sheet[1]:
                self.come(level, self.plain_to(room, b))
            for a in self.sheet[0]:
                self.go_in(level, room, a)
            for outer, opener, a in list(self.openings[level]):
                self.go_out(outer, opener, a, room)

    def go_in(self, level, room, a):
        first = self.open_to(room, a)
        if first is not None:
            self.begin_level(first)
            self.openings[first].append((level, room, a))
            for last in list(self.within[first]):
                self.go_out(level, room, a, last)

    def go_out(self, level, opener, a, last):
        for c in self.sheet[2]:
            self.come(level, self.close_to(opener, a, last, c))

    def plain_to(self, room, b):
        way = ("plain", room, b)
        if way not in self.ways:
            self.ways[way] = self.room_of(behind_plain(self.steps, self.holds[room], b))
        return self.ways[way]

    def open_to(self, room, a):
        way = ("open", room, a)
        if way not in self.ways:
            self.ways[way] = self.room_of(behind_open(self.steps, self.holds[room], a))
            if self.ways[way] is not None:
                self.marks[(room, a)] = len(self.marks)
        return self.ways[way]

    def close_to(self, opener, a, last, c):
        way = ("close", last, self.marks[(opener, a)], c)
        if way not in self.ways:
            pairs = behind_close(self.holds[opener], self.onward(a, last, c))
            self.ways[way] = self.room_of(pairs)
        return self.ways[way]

    def onward(self, a, last, c):
        """Where an open and a close lead around a room's holds; many openers ask for the same."""
        key = (a, last, c)
        if key not in self.arounds:
            self.arounds[key] = around(self.steps, a, self.holds[last], c)
        return self.arounds[key]

    def moves(self):
        told = []
        for way, room in self.ways.items():
            if room is not None and way[0] == "open":
                told.append(way + (self.marks[(way[1], way[2])], room))
            elif room is not None:
                told.append(way + (room,))
        return told


def one_way(machine, limit=16):
    found = Search(machine, limit)
    found.search()
    holds = [list(pairs) for pairs in found.holds]
    lasts = lasts_among(machine, holds)
    made = built(machine[0], len(holds), len(found.marks), [0], lasts, found.moves())
    return (made, holds)


def lasts_among(machine, holds):
    """The rooms whose holds have a last room."""
    return [room for room, pairs in enumerate(holds) if any(p in machine[4] for o, p in pairs)]
