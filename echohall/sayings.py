"""Sayings of what was, and where in a word they are so.

A saying is laid out as a list of all sayings within it, each behind those
within it and itself the last. What is so at a place is then a tuple of truths,
one for each of these; it hangs on the letter and on the truths right ahead,
beside and around alone.
"""

from echohall.signs import need_word

MOST_WITHIN = 8
MOST_IN_ALL = 15
PARTS = {"not": 1, "both": 2, "ahead": 1, "beside": 1, "around": 1, "since": 2, "level": 2}


def is_form(sheet, thing):
    """Whether a thing is a saying, but for those within it and how many there are."""
    if not isinstance(thing, tuple) or not thing or not isinstance(thing[0], str):
        return False
    if thing[0] == "is":
        return len(thing) == 2 and thing[1] in sheet[0] + sheet[1] + sheet[2]
    return thing[0] in PARTS and len(thing) == 1 + PARTS[thing[0]]


def is_saying(sheet, thing):
    seen = 0
    waiting = [(thing, 1)]
    while waiting:
        part, level = waiting.pop()
        seen += 1
        if seen > MOST_IN_ALL or level > MOST_WITHIN or not is_form(sheet, part):
            return False
        if part[0] != "is":
            waiting.extend([(inner, level + 1) for inner in part[1:]])
    return True


def laid_out(saying):
    """All sayings within a saying: (head, letter), or the head and the places of its own in this list."""
    rows = []
    lay_out(saying, rows)
    return rows


def lay_out(saying, rows):
    """Lay out a saying behind these rows; tells its own place."""
    within = saying[1:]
    if saying[0] != "is":
        within = tuple(lay_out(part, rows) for part in within)
    rows.append(saying[:1] + within)
    return len(rows) - 1


def so_at(rows, letter, ahead, beside, around):
    """What is so at a letter, by what is so at the places right ahead, beside and around, None for one there isn't."""
    told = {"ahead": ahead, "beside": beside, "around": around, "since": ahead, "level": beside}
    truths_here = []
    for place, row in enumerate(rows):
        truths_here.append(is_so(row, letter, truths_here, told.get(row[0]), place))
    return tuple(truths_here)


def is_so(row, letter, here, there, place):
    """Whether one laid out saying is so; there is what is so at the place that it looks at."""
    if row[0] == "is":
        return letter == row[1]
    if row[0] == "not":
        return not here[row[1]]
    if row[0] == "both":
        return here[row[1]] and here[row[2]]
    if row[0] in ("since", "level"):
        return here[row[2]] or (here[row[1]] and there is not None and there[place])
    return there is not None and there[row[1]]


def truths(sheet, word, saying):
    need_word(sheet, word)
    rows = laid_out(saying)
    told = []
    ahead = None
    # For each level what is so at its open and at its last place.
    levels = [(None, None)]
    for letter in word:
        if letter in sheet[2] and len(levels) > 1:
            levels.pop()
        around, beside = levels.pop()
        ahead = so_at(rows, letter, ahead, beside, around)
        levels.append((around, ahead))
        if letter in sheet[0]:
            levels.append((ahead, None))
        told.append(ahead[-1])
    return told
