"""Words told by their number among those of as many letters, and the other way about.

What a word may still become hangs on the room and on the marks of the opens
that aren't answered yet. So how many rests there are is counted level by level,
a level for each such open; no word is tried.
"""

from echohall.counts import Counter, need_one_way
from echohall.machines import way_of
from echohall.nests import need_shut


class Rests:
    """Goes along words of n letters, and counts how many are let by that go on so."""

    def __init__(self, machine, n):
        counter = Counter(machine, n)
        self.machine = machine
        self.words = counter.level(None, n)
        sums = [counter.parts_of(self.words, size) for size in range(n + 1)]
        self.parts = [{room: counter.counts_in(row[room]) for room in row} for row in sums]
        self.ways = {way_of(move): move for move in machine[5]}
        self.closes = {}
        for move in machine[5]:
            if move[0] == "close":
                self.closes.setdefault((move[1], move[2]), []).append(move[4])
        self.room = machine[3][0]
        self.left = n
        self.marks = [None]
        self.tables = [self.table_of(None, None)]

    def table_of(self, mark, outer):
        """How many rests there are on a level, by how many letters they have and the room where they begin."""
        rows = []
        for left in range(self.left + 1):
            rows.append([self.rests_from(rows, left, room, mark, outer) for room in range(self.machine[1])])
        return rows

    def rests_from(self, rows, left, room, mark, outer):
        if left == 0:
            return 1 if outer is None and room in self.machine[4] else 0
        many = 0
        for size in range(1, left + 1):
            for led, count in self.parts[size].get(room, []):
                many += count * rows[left - size][led]
        if outer is not None:
            many += sum([outer[left - 1][led] for led in self.closes.get((room, mark), [])])
        return many

    def many(self):
        """How many rests there are from here."""
        return self.tables[-1][self.left][self.room]

    def move_by(self, letter):
        """The move by a letter from here, None where there is none."""
        sheet = self.machine[0]
        if letter in sheet[0]:
            way = ("open", self.room, letter)
        elif letter in sheet[1]:
            way = ("plain", self.room, letter)
        else:
            way = ("close", self.room, self.marks[-1], letter)
        return self.ways.get(way)

    def many_by(self, letter):
        """How many rests from here begin with this letter."""
        move = self.move_by(letter)
        if move is None:
            return 0
        if move[0] == "plain":
            return self.tables[-1][self.left - 1][move[3]]
        if move[0] == "close":
            return self.tables[-2][self.left - 1][move[4]]
        return self.many_by_open(move)

    def many_by_open(self, move):
        many = 0
        for size in range(self.left - 1):
            for last, count in self.words[size][move[4]]:
                for led in self.closes.get((last, move[3]), []):
                    many += count * self.tables[-1][self.left - 2 - size][led]
        return many

    def go(self, letter):
        """Go on by a letter by which there is a move."""
        move = self.move_by(letter)
        self.left -= 1
        self.room = move[-1]
        if move[0] == "open":
            self.marks.append(move[3])
            self.tables.append(self.table_of(move[3], self.tables[-1]))
        elif move[0] == "close":
            self.marks.pop()
            self.tables.pop()


def letters_in_order(sheet):
    return sheet[0] + sheet[1] + sheet[2]


def word_of(machine, n, k):
    need_one_way(machine)
    rests = Rests(machine, n)
    if not 0 <= k < rests.many():
        return None
    word = []
    while len(word) < n:
        letter, ahead = letter_for(rests, k)
        k -= ahead
        word.append(letter)
        rests.go(letter)
    return word


def letter_for(rests, k):
    """The letter with which the kth rest begins, and how many rests begin with lesser ones."""
    ahead = 0
    for letter in letters_in_order(rests.machine[0]):
        many = rests.many_by(letter)
        if k < ahead + many:
            return (letter, ahead)
        ahead += many
    return None


def number_of(machine, word):
    need_shut(machine[0], word)
    need_one_way(machine)
    rests = Rests(machine, len(word))
    number = 0
    for letter in word:
        if rests.many_by(letter) == 0:
            return None
        for lesser in letters_in_order(machine[0]):
            if lesser == letter:
                break
            number += rests.many_by(lesser)
        rests.go(letter)
    return number if rests.many() == 1 else None
