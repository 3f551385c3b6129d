"""Machines made one way: a room for each set of holds that there is."""

from echohall.levels import Search
from echohall.machines import built
from echohall.steps import Steps, around, begun, led_onward, behind_open, behind_plain


class Holds:
    """How the holds of a machine follow from one another; those behind no walk are none."""

    def __init__(self, machine):
        self.sheet = machine[0]
        self.first = begun(machine)
        self.steps = Steps(machine)
        self.arounds = {}

    def begin(self):
        return tuple(self.first)

    def by_plain(self, holds, b):
        return some_of(behind_plain(self.steps, holds, b))

    def by_open(self, holds, a):
        return some_of(behind_open(self.steps, holds, a))

    def by_close(self, outer, a, inner, c):
        return some_of(led_onward(outer, self.onward(a, inner, c)))

    def onward(self, a, inner, c):
        """Where an open and a close lead around holds; many openers ask for the same."""
        key = (a, inner, c)
        if key not in self.arounds:
            self.arounds[key] = around(self.steps, a, inner, c)
        return self.arounds[key]

    def kept_by(self, holds, a):
        """What must be known at the close of the holds ahead of its open."""
        return (holds, a)


def some_of(pairs):
    return tuple(pairs) if pairs else None


def one_way(machine, limit=16):
    found = Search(Holds(machine), limit)
    holds = [list(pairs) for pairs in found.states]
    lasts = lasts_among(machine, holds)
    # The moves lay the marks, so they are asked for first.
    moves = found.moves()
    made = built(machine[0], len(holds), len(found.marks), [0], lasts, moves)
    return (made, holds)


def lasts_among(machine, holds):
    """The rooms whose holds have a last room."""
    return [room for room, pairs in enumerate(holds) if any(p in machine[4] for o, p in pairs)]
