"""Tables of shut words, and the kinds into which they fall.

A table is made as a telling is: (sheet, words, lets, plains, rows, wraps), but
that its numbers may be of things finer than kinds, such as stretches.
"""

from echohall.growth import letters_by, need_short


def table_of(machine, grown):
    """The table of all stretches of a machine, in the order in which they were found; without words."""
    stretches = grown.rules.stretches
    numbers = [number for p, q, number in grown.sizes]
    places = {number: place for place, number in enumerate(numbers)}
    opens, plains, closes = machine[0]
    return (
        machine[0],
        (),
        tuple(places[number] for number in numbers if stretches.leads(number, machine[3], machine[4])),
        tuple(places[stretches.of_plain(b)] for b in plains),
        tuple(tuple(places[stretches.of_row(one, other)] for other in numbers) for one in numbers),
        tuple(
            tuple(tuple(places[stretches.of_wrap(a, number, c)] for number in numbers) for c in closes)
            for a in opens
        ),
    )


def parted(table):
    """For each number of a table the number of its kind, from 0 on as they first come."""
    sheet, words, lets, plains, rows, wraps = table
    kinds = numbered([number in lets for number in range(len(rows))])
    many = 0
    # Each round parts what the kinds of the last one tell apart, until nothing new is parted.
    while many < len(set(kinds)):
        many = len(set(kinds))
        kinds = numbered([sign_of(table, kinds, number) for number in range(len(rows))])
    return kinds


def sign_of(table, kinds, number):
    """The kind of a number and of all that is put together with it."""
    rows, wraps = table[4], table[5]
    behind = [kinds[made] for made in rows[number]]
    ahead = [kinds[row[number]] for row in rows]
    around = [kinds[by_close[number]] for by_open in wraps for by_close in by_open]
    return (kinds[number],) + tuple(behind + ahead + around)


def numbered(signs):
    """A number for each sign, the same for the same, from 0 on as they first come."""
    known = {}
    for sign in signs:
        known.setdefault(sign, len(known))
    return [known[sign] for sign in signs]


def gathered(table, kinds):
    """The numbers of each kind."""
    groups = [[] for kind in sorted(set(kinds))]
    for number, kind in enumerate(kinds):
        groups[kind].append(number)
    return groups


def least_telling(table, grown):
    """The telling of a machine, by the table of its stretches and what was found of these."""
    triples = list(grown.sizes)
    groups = gathered(table, parted(table))
    leasts = [grown.least_of([triples[number] for number in group]) for group in groups]
    need_short([size for size, word in leasts], grown.most)
    order = sorted(range(len(groups)), key=lambda kind: leasts[kind])
    words = tuple(tuple(letters_by(table[0], leasts[kind][1])) for kind in order)
    return merged(table, [groups[kind] for kind in order], words)


def merged(table, groups, words):
    """The table in which each group of numbers is one."""
    sheet, none, lets, plains, rows, wraps = table
    kinds = {number: kind for kind, group in enumerate(groups) for number in group}
    firsts = [group[0] for group in groups]
    return (
        sheet,
        words,
        tuple(kinds[number] for number in firsts if number in lets),
        tuple(kinds[number] for number in plains),
        tuple(tuple(kinds[rows[one][other]] for other in firsts) for one in firsts),
        tuple(tuple(tuple(kinds[by[number]] for number in firsts) for by in by_open) for by_open in wraps),
    )
