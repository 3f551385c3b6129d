"""Contexts that part the kinds of a telling."""

from echohall.nests import is_shut
from echohall.signs import need_word
from echohall.tellings import kind_of_shut


def contexts_of(telling):
    """(left, right, table): letters around a word, and the kind that comes of each kind between them."""
    sheet, words, lets, plains, rows, wraps = telling
    found = []
    for a, by_open in zip(sheet[0], wraps):
        for c, table in zip(sheet[2], by_open):
            found.append(((a,), (c,), table))
    for kind, word in enumerate(words):
        found.append(((), word, tuple(row[kind] for row in rows)))
        found.append((word, (), rows[kind]))
    return found


def parting(telling, k, l):
    contexts = contexts_of(telling)
    # How each pair of kinds was come to: the pair within it and the letters around that one.
    within = {(k, l): None}
    waiting = [(k, l)]
    while waiting:
        behind = []
        for pair in waiting:
            if is_parted(telling, pair):
                return letters_around(within, pair)
            for left, right, table in contexts:
                made = (table[pair[0]], table[pair[1]])
                if made not in within:
                    within[made] = (pair, left, right)
                    behind.append(made)
        waiting = behind
    return None


def is_parted(telling, pair):
    """Whether just one of two kinds is let by."""
    return (pair[0] in telling[2]) != (pair[1] in telling[2])


def letters_around(within, pair):
    """All letters around, from a pair to the innermost one."""
    left, right = [], []
    while within[pair] is not None:
        pair, ahead, behind = within[pair]
        left = left + list(ahead)
        right = list(behind) + right
    return (left, right)


def is_parting(telling, k, l, left, right):
    sheet, words = telling[0], telling[1]
    need_word(sheet, left)
    need_word(sheet, right)
    # What stands between is shut by itself, so it hangs on the two alone whether all is.
    if not is_shut(sheet, left + right):
        return False
    kinds = [kind_of_shut(telling, left + list(words[kind]) + right) for kind in (k, l)]
    return is_parted(telling, kinds)
