"""Machines of sayings: a room for each look that there is.

A look behind letters is (last, beside, around): what is so at the last letter,
at the last place of the level, and at the open with which the level begins;
None for each that there isn't.
"""

from echohall.levels import Search
from echohall.machines import built
from echohall.sayings import laid_out, so_at


class Looks:
    """How the looks of a saying follow from one another."""

    def __init__(self, sheet, saying):
        self.sheet = sheet
        self.rows = laid_out(saying)

    def begin(self):
        return (None, None, None)

    def by_plain(self, look, b):
        here = so_at(self.rows, b, look[0], look[1], look[2])
        return (here, here, look[2])

    def by_open(self, look, a):
        here = so_at(self.rows, a, look[0], look[1], look[2])
        return (here, None, here)

    def by_close(self, outer, a, inner, c):
        # Beside a close stands its open, which is around what stands between.
        here = so_at(self.rows, c, inner[0], inner[2], outer[2])
        return (here, here, outer[2])

    def kept_by(self, look, a):
        """What must be known at the close of the look ahead of its open."""
        return look[2]


def machine_for(sheet, saying, limit=16):
    found = Search(Looks(sheet, saying), limit)
    moves = found.moves()
    lasts = [room for room, look in enumerate(found.states) if is_good_end(look)]
    return built(sheet, len(found.states), len(found.marks), [0], lasts, moves)


def is_good_end(look):
    """Whether the saying is so behind a shut word of one letter or more."""
    last, beside, around = look
    return around is None and last is not None and last[-1]
