"""Stretches: between which rooms of a machine a shut word leads.

Each stretch that comes up has a number. It is kept as a row for each room: the
rooms to which the word leads from there, as bits.
"""

from echohall.steps import Steps, around, rooms_in


class Stretches:
    """The stretches of one machine that have come up, and what follows from them."""

    def __init__(self, machine):
        self.steps = Steps(machine)
        self.size = machine[1]
        self.rows = []
        self.spreads = []
        self.numbers = {}
        self.rowed = {}
        self.wrapped = {}

    def number_of(self, rows):
        if rows not in self.numbers:
            self.numbers[rows] = len(self.rows)
            self.rows.append(rows)
            self.spreads.append([rooms_in(bits) for bits in rows])
        return self.numbers[rows]

    def of_none(self):
        """The stretch of no letters."""
        return self.number_of(tuple(1 << p for p in range(self.size)))

    def of_plain(self, b):
        return self.number_of(tuple(self.steps.by_plain(p, b) for p in range(self.size)))

    def of_row(self, one, other):
        """The stretch of a word and another one behind it."""
        key = (one, other)
        if key not in self.rowed:
            behind = self.rows[other]
            self.rowed[key] = self.number_of(tuple(led_by(behind, rooms) for rooms in self.spreads[one]))
        return self.rowed[key]

    def of_wrap(self, a, inner, c):
        """The stretch of an open, a word and a close."""
        key = (a, inner, c)
        if key not in self.wrapped:
            onward = around(self.steps, a, self.pairs_of(inner), c)
            self.wrapped[key] = self.number_of(tuple(onward.get(p, 0) for p in range(self.size)))
        return self.wrapped[key]

    def of_pairs(self, pairs):
        rows = [0] * self.size
        for p, q in pairs:
            rows[p] = rows[p] | 1 << q
        return self.number_of(tuple(rows))

    def pairs_of(self, number):
        """A stretch as the rising tuple of its pairs."""
        return tuple((p, q) for p, rooms in enumerate(self.spreads[number]) for q in rooms)

    def leads(self, number, firsts, lasts):
        """Whether a word of this stretch leads from one of the firsts to one of the lasts."""
        return any(q in lasts for p in firsts for q in self.spreads[number][p])


def led_by(rows, rooms):
    """The rooms to which rows lead from these rooms, as bits."""
    led = 0
    for room in rooms:
        led = led | rows[room]
    return led
