"""What one letter does to pairs of rooms, for all walks at once.

A pair (o, p) says that some walk led to the room o behind the last open that
isn't answered and has led to the room p now. Where many rooms follow at once
they are bits of one number, as putting such together is one step: a machine
may have thousands of moves.
"""


class Steps:
    """The moves of a machine, to be found by where they begin."""

    def __init__(self, machine):
        self.plains = {}
        self.opens = {}
        self.closes = {}
        self.openers = {}
        for move in machine[5]:
            self.take(move)

    def take(self, move):
        if move[0] == "plain":
            add_bit(self.plains, (move[1], move[2]), move[3])
        elif move[0] == "open":
            add_bit(self.opens.setdefault((move[1], move[2]), {}), move[3], move[4])
            add_bit(self.openers.setdefault((move[2], move[4]), {}), move[3], move[1])
        else:
            add_bit(self.closes.setdefault((move[1], move[3]), {}), move[2], move[4])

    def by_plain(self, p, b):
        """The rooms to which the plain b leads from the room p, as bits."""
        return self.plains.get((p, b), 0)

    def by_open(self, p, a):
        """The rooms to which the open a leads from the room p, as bits, by the marks that it lays."""
        return self.opens.get((p, a), {})

    def by_close(self, p, c):
        """The rooms to which the close c leads from the room p, as bits, by the marks that it takes."""
        return self.closes.get((p, c), {})

    def into(self, a, q):
        """The rooms from which the open a leads to the room q, as bits, by the marks that it lays."""
        return self.openers.get((a, q), {})


def add_bits(table, key, bits):
    table[key] = table.get(key, 0) | bits


def add_bit(table, key, room):
    add_bits(table, key, 1 << room)


def has_bit(bits, room):
    return (bits >> room) & 1 == 1


def rooms_in(bits):
    """The rooms that are bits of a number, rising."""
    return [room for room in range(bits.bit_length()) if has_bit(bits, room)]


def spread(rows):
    """The sorted pairs of a table with the second rooms, as bits, under the first ones."""
    return [(o, p) for o in sorted(rows) for p in rooms_in(rows[o])]


def behind_plain(steps, pairs, b):
    rows = {}
    for o, p in pairs:
        add_bits(rows, o, steps.by_plain(p, b))
    return spread(rows)


def behind_open(steps, pairs, a):
    entered = 0
    for p in sorted({p for o, p in pairs}):
        for rooms in steps.by_open(p, a).values():
            entered = entered | rooms
    return [(q, q) for q in rooms_in(entered)]


def around(steps, a, inner, c):
    """The rooms to which an open, the inner pairs and a close lead, as bits, by the room ahead of the open."""
    ends = {}
    for r, s in inner:
        for m, rooms in steps.by_close(s, c).items():
            add_bits(ends.setdefault(r, {}), m, rooms)
    onward = {}
    for r, by_mark in ends.items():
        for m, openers in steps.into(a, r).items():
            if m in by_mark:
                for p in rooms_in(openers):
                    add_bits(onward, p, by_mark[m])
    return onward


def led_onward(pairs, onward):
    """All (o, q) for (o, p) among the pairs and a way from p on to q; onward has such q as bits, by p.

    At a close the pairs are those ahead of its open, and onward is what leads around from there.
    """
    rows = {}
    for o, p in pairs:
        add_bits(rows, o, onward.get(p, 0))
    return spread(rows)


def begun(machine):
    """The pairs ahead of all letters."""
    return [(p, p) for p in machine[3]]


def is_begin(told, place):
    """Whether an open stands at a place of a shut word with these answers."""
    return told[place] is not None and told[place] > place


def pairs_behind(steps, word, told, lists, place):
    """The pairs that follow at the letter at a place from those in the lists ahead of it."""
    letter = word[place]
    if told[place] is None:
        return behind_plain(steps, lists[place], letter)
    if is_begin(told, place):
        return behind_open(steps, lists[place], letter)
    start = told[place]
    return led_onward(lists[start], around(steps, word[start], lists[place], letter))
