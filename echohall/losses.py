"""Losses: papers that whatever is heard behind letters, it never ends well."""

from echohall.leasts import are_pairs_of_rooms, is_reach
from echohall.looks import has_all
from echohall.signs import need_word
from echohall.steps import add_bit, around, led_onward
from echohall.trail import Trail


def onward_by(reach):
    """For each room of a reach the rooms to which it leads, as bits."""
    onward = {}
    for p, q in reach:
        add_bit(onward, p, q)
    return onward


def led_out(trail, opening, pairs, onward):
    """Where it leads from the pairs of a level by a close, and on from there; the opening is that of the level."""
    a, outer = opening
    found = []
    for c in trail.sheet[2]:
        found += led_onward(outer, around(trail.steps, a, pairs, c))
    return led_onward(found, onward)


def least_levels(trail, reach):
    """The least lists that a right loss must have, with this reach."""
    onward = onward_by(reach)
    levels = [led_onward(trail.lists[-1], onward)]
    for opening in trail.levels_begun()[::-1]:
        levels.append(led_out(trail, opening, levels[-1], onward))
    return levels


def ends_well(machine, pairs):
    return any(q in machine[4] for o, q in pairs)


def loss_of(machine, trail, reach):
    """A right loss by a least reach, None where there is a rest."""
    levels = least_levels(trail, reach)
    return None if ends_well(machine, levels[-1]) else (list(reach), levels)


def shows_loss(machine, letters, loss):
    need_word(machine[0], letters)
    trail = Trail(machine)
    for letter in letters:
        trail.go(letter)
    reach, levels = loss
    if len(levels) != len(trail.unanswered) + 1 or not is_reach(machine, reach):
        return False
    if not all(are_pairs_of_rooms(machine, pairs) for pairs in levels):
        return False
    return are_closed_levels(trail, onward_by(reach), levels) and not ends_well(machine, levels[-1])


def are_closed_levels(trail, onward, levels):
    """Whether each list has all that it must have by the holds, by the one ahead of it and by the reach."""
    if not has_all(levels[0], led_onward(trail.lists[-1], onward)):
        return False
    for at, opening in enumerate(trail.levels_begun()[::-1]):
        if not has_all(levels[at + 1], led_out(trail, opening, levels[at], onward)):
            return False
    return True
