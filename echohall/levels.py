"""One-way machines found by search: a room for each state that there is behind any letters.

A state is what one must know of the letters so far. It follows from the one
ahead of a letter, and at a close from the one ahead of its open, too; what of
this one must be known is kept by the mark that the open lays.

A level is what stands between an open and the close that answers it, or all
that stands in no pair. It is known by the room with which it begins: which
rooms come in it hangs on nothing else. A close is tried only with rooms that
come in one level with its open, as others would bring forth states that are
behind no letters.
"""

from echohall.errors import TooMany


class Search:
    """All states behind any letters, and the moves between them; the rules say how states follow from one another.

    A state can be a key; None is none at all, where no move leads on.
    """

    def __init__(self, rules, limit):
        self.rules = rules
        self.limit = limit
        self.states = []
        self.rooms = {}
        self.marks = {}
        self.ways = {}
        self.within = {}
        self.openings = {}
        self.waiting = []
        self.begin_level(self.room_of(rules.begin()))
        self.search()

    def room_of(self, state):
        """The room of a state, a new one if need be; None of none."""
        if state is None:
            return None
        if state not in self.rooms:
            if len(self.states) >= self.limit:
                raise TooMany(f"more than {self.limit} states")
            self.rooms[state] = len(self.states)
            self.states.append(state)
        return self.rooms[state]

    def begin_level(self, first):
        if first not in self.within:
            self.within[first] = {}
            self.openings[first] = []
            self.come(first, first)

    def come(self, level, room):
        """Note that a room comes in a level."""
        if room is not None and room not in self.within[level]:
            self.within[level][room] = True
            self.waiting.append((level, room))

    def search(self):
        opens, plains, closes = self.rules.sheet
        while self.waiting:
            level, room = self.waiting.pop()
            for b in plains:
                self.come(level, self.plain_to(room, b))
            for a in opens:
                self.go_in(level, room, a)
            for outer, opener, a in list(self.openings[level]):
                self.go_out(outer, opener, a, room)

    def go_in(self, level, room, a):
        first = self.open_to(room, a)
        if first is not None:
            self.begin_level(first)
            self.openings[first].append((level, room, a))
            for last in list(self.within[first]):
                self.go_out(level, room, a, last)

    def go_out(self, level, opener, a, last):
        for c in self.rules.sheet[2]:
            self.come(level, self.close_to(opener, a, last, c))

    def plain_to(self, room, b):
        way = ("plain", room, b)
        if way not in self.ways:
            self.ways[way] = self.room_of(self.rules.by_plain(self.states[room], b))
        return self.ways[way]

    def open_to(self, room, a):
        way = ("open", room, a)
        if way not in self.ways:
            self.ways[way] = self.room_of(self.rules.by_open(self.states[room], a))
        return self.ways[way]

    def close_to(self, opener, a, last, c):
        way = ("close", last, self.mark_of(opener, a), c)
        if way not in self.ways:
            self.ways[way] = self.room_of(self.rules.by_close(self.states[opener], a, self.states[last], c))
        return self.ways[way]

    def mark_of(self, room, a):
        """The mark that an open lays, a new one if need be."""
        return self.marks.setdefault(self.rules.kept_by(self.states[room], a), len(self.marks))

    def moves(self):
        told = []
        for way, room in self.ways.items():
            if room is not None and way[0] == "open":
                told.append(way + (self.mark_of(way[1], way[2]), room))
            elif room is not None:
                told.append(way + (room,))
        return told
