"""The one least telling of a machine: the kinds of its shut words."""

from echohall.errors import TooLong, TooMany
from echohall.growth import Growth
from echohall.kinds import least_telling, table_of
from echohall.machines import built, is_below, machine_of_all
from echohall.nests import need_shut
from echohall.signs import is_sheet
from echohall.triples import Triples

MOST_KINDS = 8
MOST_LETTERS = 400


def grown_stretches(machine, limit, most):
    """All stretches that shut words have in a machine, found with all shut words on the other side."""
    return Growth(Triples(machine_of_all(machine[0]), machine), limit, most)


def telling(machine, limit=16, most=400):
    grown = grown_stretches(machine, limit, most)
    return least_telling(table_of(machine, grown), grown)


def kind_of(telling, word):
    need_shut(telling[0], word)
    return kind_of_shut(telling, word)


def places_in(letters):
    return {letter: place for place, letter in enumerate(letters)}


def kind_of_shut(table, word):
    """The kind of a word that is known to be shut, also by a table of things finer than kinds."""
    sheet, words, lets, plains, rows, wraps = table
    opens, singles, closes = places_in(sheet[0]), places_in(sheet[1]), places_in(sheet[2])
    # Words nest deeper than calls may, so what was ahead of each open is kept in a list.
    kind = 0
    waiting = []
    for letter in word:
        if letter in opens:
            waiting.append((kind, opens[letter]))
            kind = 0
        elif letter in closes:
            ahead, a = waiting.pop()
            kind = rows[ahead][wraps[a][closes[letter]][kind]]
        else:
            kind = rows[kind][plains[singles[letter]]]
    return kind


def machine_by(telling):
    sheet, words, lets, plains, rows, wraps = telling
    opens = sheet[0]
    moves = []
    for kind in range(len(rows)):
        for place, b in enumerate(sheet[1]):
            moves.append(("plain", kind, b, rows[kind][plains[place]]))
        for place, a in enumerate(opens):
            mark = kind * len(opens) + place
            moves.append(("open", kind, a, mark, 0))
            moves += closes_of(telling, kind, place, mark)
    return built(sheet, len(rows), len(rows) * len(opens), [0], lets, moves)


def closes_of(telling, kind, place, mark):
    """The moves that take the mark of an open behind this kind."""
    rows, wraps = telling[4], telling[5]
    told = []
    for at, c in enumerate(telling[0][2]):
        for inner in range(len(rows)):
            told.append(("close", inner, mark, c, rows[kind][wraps[place][at][inner]]))
    return told


def is_row(thing, many, kinds):
    """Whether a thing is a tuple of so many kinds."""
    return isinstance(thing, tuple) and len(thing) == many and all(is_below(kind, kinds) for kind in thing)


def is_tuple_of(thing, many):
    return isinstance(thing, tuple) and len(thing) == many


def is_shaped(thing):
    """Whether a thing has the form of a telling, but for its words and the order of its lets."""
    if not is_tuple_of(thing, 6) or not is_sheet(thing[0]):
        return False
    sheet, words, lets, plains, rows, wraps = thing
    if not isinstance(words, tuple) or not 1 <= len(words) <= MOST_KINDS or not isinstance(lets, tuple):
        return False
    many = len(words)
    if not is_row(lets, len(lets), many) or not is_row(plains, len(sheet[1]), many):
        return False
    if not is_tuple_of(rows, many) or not all(is_row(row, many, many) for row in rows):
        return False
    if not is_tuple_of(wraps, len(sheet[0])):
        return False
    if not all(is_tuple_of(by_open, len(sheet[2])) for by_open in wraps):
        return False
    return all(is_row(row, many, many) for by_open in wraps for row in by_open)


def is_telling(thing):
    if not is_shaped(thing):
        return False
    # A telling is the telling of its own machine, whose words have just one stretch for each kind.
    try:
        told = telling(machine_by(thing), len(thing[1]), MOST_LETTERS)
    except (TooMany, TooLong):
        return False
    return told == thing
