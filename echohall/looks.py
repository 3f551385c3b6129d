"""Looking at anybody's walks and bars."""

from echohall.nests import need_shut
from echohall.steps import Steps, begun, is_begin, pairs_behind


def letter_of(move):
    return move[3] if move[0] == "close" else move[2]


def are_moves_by(machine, word, moves):
    """Whether there is a move of the machine for each letter, by that letter."""
    if len(moves) != len(word):
        return False
    known = {move: True for move in machine[5]}
    return all(move in known and letter_of(move) == letter for move, letter in zip(moves, word))


def are_marks_kept(moves, told):
    """Whether each close takes the mark that the open laid which it answers."""
    for place, move in enumerate(moves):
        if is_begin(told, place) and move[3] != moves[told[place]][2]:
            return False
    return True


def is_walk(machine, word, moves):
    told = need_shut(machine[0], word)
    if not are_moves_by(machine, word, moves):
        return False
    if not moves:
        return any(room in machine[4] for room in machine[3])
    if moves[0][1] not in machine[3] or moves[-1][-1] not in machine[4]:
        return False
    if any(moves[at][-1] != moves[at + 1][1] for at in range(len(moves) - 1)):
        return False
    return are_marks_kept(moves, told)


def has_all(pairs, wanted):
    known = {(o, p): True for o, p in pairs}
    return all(pair in known for pair in wanted)


def shows_bar(machine, word, lists):
    told = need_shut(machine[0], word)
    if len(lists) != len(word) + 1 or not has_all(lists[0], begun(machine)):
        return False
    steps = Steps(machine)
    for place in range(len(word)):
        if not has_all(lists[place + 1], pairs_behind(steps, word, told, lists, place)):
            return False
    return not any(p in machine[4] for o, p in lists[-1])
