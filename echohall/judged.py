"""Great words judged, without writing them."""

from echohall.great import parts_in
from echohall.kinds import table_of
from echohall.tellings import grown_stretches, kind_of_shut


def many_steps(table, kind, times):
    """The kind to which a table leads by so many steps; the steps are doubled, as there may be very many."""
    while times > 0:
        if times & 1 == 1:
            kind = table[kind]
        table = [table[made] for made in table]
        times = times >> 1
    return kind


def kind_by(telling, great):
    # Tables of things finer than kinds are handed in, too.
    sheet, words, lets, plains, rows, wraps = telling
    if great[0] == "word":
        return kind_of_shut(telling, great[1])
    kind = 0
    for part in parts_in(great):
        kind = rows[kind][kind_by(telling, part)]
    if great[0] == "again":
        return many_steps([row[kind] for row in rows], 0, great[1])
    if great[0] == "wrap":
        around = wraps[sheet[0].index(great[2])][sheet[2].index(great[4])]
        return many_steps(around, kind, great[1])
    return kind


def lets_great(machine, great, limit=16):
    # Stretches serve as well as kinds, and no least words have to be known of them.
    table = table_of(machine, grown_stretches(machine, limit, 0))
    return kind_by(table, great) in table[2]
