"""The least words of a machine, and tables that show that it lets none by."""

from echohall.growth import Growth, letters_by, need_short
from echohall.machines import is_below, machine_of_all
from echohall.triples import Triples


def pair_rules(machine):
    """The triples of a machine of which only the rooms tell something."""
    return Triples(machine, machine_of_all(machine[0]))


def least_word(machine, most=400):
    grown = Growth(pair_rules(machine), None, most)
    ends = [triple for triple in grown.sizes if triple[0] in machine[3] and triple[1] in machine[4]]
    if not ends:
        return ("reach", sorted((p, q) for p, q, same in grown.sizes))
    size, word = grown.least_of(ends)
    need_short([size], most)
    return ("word", letters_by(machine[0], word))


def least_between(machine, most=400):
    grown = Growth(pair_rules(machine), None, most)
    need_short(list(grown.sizes.values()), most)
    return {(p, q): letters_by(machine[0], grown.words[(p, q, same)]) for p, q, same in sorted(grown.sizes)}


def are_pairs_of_rooms(machine, pairs):
    return all(is_below(p, machine[1]) and is_below(q, machine[1]) for p, q in pairs)


def is_reach(machine, pairs):
    if not are_pairs_of_rooms(machine, pairs):
        return False
    rules = pair_rules(machine)
    same = rules.stretches.of_none()
    return rules.are_closed([(p, q, same) for p, q in pairs])


def shows_none(machine, pairs):
    if any(p in machine[3] and q in machine[4] for p, q in pairs):
        return False
    return is_reach(machine, pairs)
