"""How many words there are, of so many letters.

A one-way machine has just one walk for each word that it lets by, so walks are
counted. Counts for all rooms stand side by side in one great number, so many
bits for each that no count comes to more: adding them up is one step then.
"""

from echohall.errors import NoOneWay
from echohall.machines import is_one_way
from echohall.tellings import machine_by


class Counter:
    """Counts shut words of at most so many letters, by the rooms between which they lead."""

    def __init__(self, machine, most):
        sheet = machine[0]
        letters = len(sheet[0]) + len(sheet[1]) + len(sheet[2])
        self.size = machine[1]
        # There are fewer words to count than a number of so many bits can tell.
        self.width = letters.bit_length() * most + 1
        self.singles = {}
        self.entries = {}
        self.leavings = {}
        for move in machine[5]:
            self.note(move)
        entered = [room for ways in self.entries.values() for mark, room in ways]
        self.starts = sorted(set(list(machine[3]) + entered))

    def note(self, move):
        if move[0] == "plain":
            self.singles[move[1]] = self.singles.get(move[1], 0) + self.one_in(move[3])
        elif move[0] == "open":
            self.entries.setdefault(move[1], []).append((move[3], move[4]))
        else:
            key = (move[1], move[2])
            self.leavings[key] = self.leavings.get(key, 0) + self.one_in(move[4])

    def one_in(self, room):
        """The counts of one word, which leads to this room."""
        return 1 << self.width * room

    def counts_in(self, sums):
        """(room, count) for each room that has a count."""
        full = (1 << self.width) - 1
        counts = [(room, (sums >> self.width * room) & full) for room in range(self.size)]
        return [(room, count) for room, count in counts if count > 0]

    def level(self, inner, most):
        """The counts of words of a level, by how many letters they have, at most so many, and where they begin.

        Inner are such counts of the words that may stand within its pairs, None where all of its own may.
        """
        rows, parts = [], []
        for size in range(most + 1):
            parts.append(self.parts_of(rows if inner is None else inner, size))
            rows.append({start: self.counts_in(self.row_of(rows, parts, start, size)) for start in self.starts})
        return rows

    def parts_of(self, inner, size):
        """The counts of all that is a plain or a pair, of so many letters, by the room where it begins."""
        if size < 2:
            return self.singles if size == 1 else {}
        return {room: self.pairs_from(room, inner[size - 2]) for room in self.entries}

    def pairs_from(self, room, within):
        sums = 0
        for mark, first in self.entries[room]:
            for last, count in within[first]:
                sums += count * self.leavings.get((last, mark), 0)
        return sums

    def row_of(self, rows, parts, start, size):
        """The counts of words of so many letters: each is a lesser one with a part behind it, or has none."""
        if size == 0:
            return self.one_in(start)
        sums = 0
        for more in range(1, size + 1):
            for room, count in rows[size - more][start]:
                sums += count * parts[more].get(room, 0)
        return sums

    def no_words(self, most):
        """The counts where there are no words at all, not even that of no letters."""
        return [{start: [] for start in self.starts}] * (most + 1)


def let_by(machine, row):
    return sum([count for room, count in row if room in machine[4]])


def need_one_way(machine):
    if not is_one_way(machine):
        raise NoOneWay("only words of a one-way machine are counted")


def how_many(machine, n):
    need_one_way(machine)
    counts = Counter(machine, n).level(None, n)
    return let_by(machine, counts[n][machine[3][0]])


def within_depth(machine, n, deep):
    need_one_way(machine)
    # So many letters are never deeper than half of them.
    if 2 * deep >= n:
        return how_many(machine, n)
    counter = Counter(machine, n)
    counts = counter.no_words(n)
    for depth in range(deep + 1):
        # What stands within more pairs has fewer letters.
        counts = counter.level(counts, n - 2 * (deep - depth))
    return let_by(machine, counts[n][machine[3][0]])


def kinds_counted(telling, n):
    counts = dict(Counter(machine_by(telling), n).level(None, n)[n][0])
    return [counts.get(kind, 0) for kind in range(len(telling[4]))]
