"""The least rests by which letters with opens that aren't answered come to their end.

A rest is a shut word, a close, a shut word and so on, down to a last room. So
it is put together level by level, the outermost first: the table of a level
has for each pair (o, p), as holds have them, the size of the least rest from
there and the rest itself, as the numbers of its letters in the order of the
sheet; of rests that are too long only the size is kept.
"""

from echohall.growth import Growth
from echohall.leasts import pair_rules
from echohall.signs import order_of
from echohall.steps import behind_open, has_bit, rooms_in
from echohall.stretches import led_by


class Homeward:
    """The tables of a machine's levels, with rests of at most so many letters."""

    def __init__(self, machine, steps, most):
        self.machine = machine
        self.steps = steps
        self.most = most
        self.order = order_of(machine[0])
        grown = Growth(pair_rules(machine), None, most)
        self.reach = sorted((p, q) for p, q, same in grown.sizes)
        # The shut words that lead on from each room.
        self.words = {}
        for triple in grown.sizes:
            word = (triple[1], grown.sizes[triple], grown.words[triple])
            self.words.setdefault(triple[0], []).append(word)

    def outermost(self):
        """The table of the level that no open stands around."""
        return self.with_words(self.machine[3], {q: (0, ()) for q in self.machine[4]})

    def with_words(self, begins, ends):
        """The table of (o, p) for these o: a shut word leads from p to a room that has its end told here."""
        found = {}
        for p, words in self.words.items():
            ways = [(size + ends[q][0], word, ends[q][1]) for q, size, word in words if q in ends]
            if ways:
                found[p] = least_way(ways, self.most)
        return {(o, p): least for o in begins for p, least in found.items()}

    def inner(self, opening, table):
        """The table of a level, by its opening and the table of the level around it."""
        a, outer = opening
        above = [0] * self.machine[1]
        for x, p in outer:
            above[p] = above[p] | 1 << x
        rests, told = {}, {}
        for o, same in behind_open(self.steps, outer, a):
            laid = {m: led_by(above, rooms_in(rooms)) for m, rooms in self.steps.into(a, o).items()}
            for bases in laid.values():
                # Many rooms and marks go with the same bases.
                if bases not in rests:
                    rests[bases] = self.rests_on(bases, table)
            ends = self.ends_from({m: rests[bases] for m, bases in laid.items()})
            for pair, least in self.with_words([o], ends).items():
                told[pair] = least
        return told

    def rests_on(self, bases, table):
        """For each room r the least of the rests from (x, r) on, for all x that are bits of the bases."""
        ways = {}
        for (x, r), (size, word) in table.items():
            if has_bit(bases, x):
                ways.setdefault(r, []).append((size, (), word))
        return {r: least_way(row, self.most) for r, row in ways.items()}

    def ends_from(self, rests):
        """For each room the least that begins with a close there; the rests behind it are told by the mark it takes."""
        ends = {}
        for q in range(self.machine[1]):
            ways = []
            for c in self.machine[0][2]:
                for m, rooms in self.steps.by_close(q, c).items():
                    behind = rests.get(m, {})
                    found = [behind[r] for r in rooms_in(rooms) if r in behind]
                    ways += [(1 + size, (self.order[c],), word) for size, word in found]
            if ways:
                ends[q] = least_way(ways, self.most)
        return ends

    def least_rest(self, holds, table):
        """(size, rest) from these holds on; None where there is none."""
        ways = [(table[pair][0], (), table[pair][1]) for pair in holds if pair in table]
        return least_way(ways, self.most) if ways else None


def least_way(ways, most):
    """(size, word) of the least of these ways (size, one word, the word behind it); no word if it is too long."""
    size = min([way[0] for way in ways])
    if size > most:
        return (size, None)
    return (size, min([word + behind for many, word, behind in ways if many == size]))
