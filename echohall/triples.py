"""Triples: what two machines make of one shut word.

A triple (p, q, S) says that a shut word leads from p to q in the one machine
and has the stretch S, here its number, in the other. Where only one of the two
is asked after, the other is the machine that lets by all words.

A part is a plain, or an open and the close that answers it with what stands
between. Each shut word that has letters is a shut word with one part behind it.
"""

from echohall.steps import Steps, around, rooms_in, spread
from echohall.stretches import Stretches


class Triples:
    """How the triples of two machines of one sheet follow from one another."""

    def __init__(self, one, other):
        self.sheet = one[0]
        self.size = one[1]
        self.steps = Steps(one)
        self.stretches = Stretches(other)

    def begins(self):
        """The triples of no letters."""
        same = self.stretches.of_none()
        return [(p, p, same) for p in range(self.size)]

    def plain_parts(self, b):
        made = self.stretches.of_plain(b)
        return [(p, q, made) for p in range(self.size) for q in rooms_in(self.steps.by_plain(p, b))]

    def wrap_parts(self, triple, a, c):
        """The triples of an open, a word of this triple and a close."""
        r, s, inner = triple
        pairs = spread(around(self.steps, a, [(r, s)], c))
        if not pairs:
            return []
        made = self.stretches.of_wrap(a, inner, c)
        return [(p, q, made) for p, q in pairs]

    def behind(self, triple, part):
        """The triple of a word and a part behind it, which begins in the room where the word ends."""
        return (triple[0], part[1], self.stretches.of_row(triple[2], part[2]))

    def parts_of(self, triples):
        """All parts with words of these triples in them, by the room where they begin."""
        opens, plains, closes = self.sheet
        found = {}
        for b in plains:
            for part in self.plain_parts(b):
                found[part] = True
        for triple in triples:
            for a in opens:
                for c in closes:
                    for part in self.wrap_parts(triple, a, c):
                        found[part] = True
        by_room = {}
        for part in found:
            by_room.setdefault(part[0], []).append(part)
        return by_room

    def are_closed(self, triples):
        """Whether the triples of no letters are among these, and all that follow from these."""
        known = {triple: True for triple in triples}
        if not all(triple in known for triple in self.begins()):
            return False
        by_room = self.parts_of(list(known))
        for triple in known:
            for part in by_room.get(triple[1], []):
                if self.behind(triple, part) not in known:
                    return False
        return True
