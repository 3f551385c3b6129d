"""Books for the tests of errands and rules, and plain ways to lead all their runs."""

import random

from tests.helps import ONE, TWO, word_key


def rising(dice, things, least):
    """Some of these things, as a rising tuple of no fewer than least, or of all."""
    while True:
        found = tuple(sorted(thing for thing in things if dice.randrange(2) == 0))
        if len(found) >= min(least, len(things)):
            return found


def some_row(dice, sheet, errands, rows, kinds):
    kind = dice.choice([kind for kind in kinds if kind != "say" or sheet[1]])
    if kind == "say":
        return ("say", dice.choice(sheet[1]), rising(dice, range(rows), 1))
    if kind == "ask":
        pairs = [(c, row) for c in sheet[2] for row in range(rows)]
        return ("ask", rising(dice, range(errands), 1), rising(dice, pairs, dice.randrange(3)))
    return ("back", dice.choice(sheet[2]))


def some_errand(dice, sheet, errands, rows):
    """Its last row is mostly a back, its first one mostly none: so runs have something to say, and may be over."""
    told = [some_row(dice, sheet, errands, rows, ("say", "ask", "back")) for _ in range(rows)]
    if dice.randrange(4):
        told[-1] = some_row(dice, sheet, errands, rows, ("back",))
    if rows > 1 and dice.randrange(4):
        told[0] = some_row(dice, sheet, errands, rows, ("say", "ask"))
    return (dice.choice(sheet[0]), tuple(told))


def some_book(seed, sheet=ONE, errands=2, rows=3):
    """A book made by a seed."""
    dice = random.Random(seed)
    return (sheet, tuple(some_errand(dice, sheet, errands, rows) for _ in range(errands)))


def plain_steps(book, place):
    """All steps from a place of a run, (errand, row, askers): letter, place behind it; in the order of choices."""
    errand, row, askers = place
    told = book[1][errand][1][row]
    if told[0] == "say":
        return [(told[1], (errand, turn, askers)) for turn in told[2]]
    if told[0] == "ask":
        return [(book[1][other][0], (other, 0, askers + ((errand, row),))) for other in told[1]]
    if not askers:
        return []
    above, asker = askers[-1]
    backs = book[1][above][1][asker][2]
    return [(told[1], (above, turn, askers[:-1])) for close, turn in backs if close == told[1]]


def is_over(book, place):
    return not place[2] and book[1][place[0]][1][place[1]][0] == "back"


def plain_runs(book, most):
    """(choices, word, over) of all runs of at most so many steps."""
    told = []
    now = [((), (), (0, 0, ()))]
    for size in range(most + 1):
        behind = []
        for choices, word, place in now:
            told.append((list(choices), list(word), is_over(book, place)))
            for pick, (letter, led) in enumerate(plain_steps(book, place)):
                behind.append((choices + (pick,), word + (letter,), led))
        now = behind
    return told


def words_over(book, most):
    """The words of at most so many letters of all runs that are over, each place of a run led on only once."""
    found = set()
    now = {((), (0, 0, ()))}
    for size in range(most + 1):
        behind = set()
        for word, place in now:
            if is_over(book, place):
                found.add(word)
            if len(place[2]) <= most - size:
                behind |= {(word + (letter,), led) for letter, led in plain_steps(book, place)}
        now = behind
    return found


def plain_courses(book, rule, most=70):
    """Each (errand, row, pairs) to which steps lead, with its least word: put together until none gets lesser.

    Where there are more than most, not all of them are told.
    """
    sheet, errands = book
    key = lambda word: word_key(sheet, word)
    found = {(e, 0, tuple((p, p) for p in range(rule[1]))): [] for e in range(len(errands))}
    changed = True
    while changed and len(found) <= most:
        changed = False
        for made, word in plain_followers(book, rule, found):
            if made not in found or key(word) < key(found[made]):
                found[made] = word
                changed = True
    return found


def plain_followers(book, rule, found):
    """What follows from these courses by point 27, word for word, with what is said."""
    sheet, errands = book
    told = []
    for (e, r, pairs), word in list(found.items()):
        row = errands[e][1][r]
        if row[0] == "say":
            made = {(o, m[3]) for o, p in pairs for m in rule[5] if m[:3] == ("plain", p, row[1])}
            told += [((e, turn, tuple(sorted(made))), word + [row[1]]) for turn in row[2]]
        elif row[0] == "ask":
            for (f, s, others), inner in list(found.items()):
                done = errands[f][1][s]
                if f in row[1] and done[0] == "back":
                    made = tuple(sorted(plain_around(rule, pairs, errands[f][0], others, done[1])))
                    said = word + [errands[f][0]] + inner + [done[1]]
                    told += [((e, t, made), said) for c, t in row[2] if c == done[1]]
    return told


def plain_around(rule, pairs, a, others, c):
    begins = [m for m in rule[5] if m[0] == "open" and m[2] == a]
    ends = [m for m in rule[5] if m[0] == "close" and m[3] == c]
    fits = [(x, y) for x in begins for y in ends if x[3] == y[2] and (x[4], y[1]) in others]
    return {(o, y[4]) for o, p in pairs for x, y in fits if x[1] == p}


def plain_shows_keeps(book, rule, table):
    """Point 27 of a table, word for word."""
    sheet, errands = book
    for e, r, pairs in table:
        if e not in range(len(errands)) or r not in range(len(errands[e][1])):
            return False
        if list(pairs) != sorted(set(pairs)) or not all(x in range(rule[1]) for pair in pairs for x in pair):
            return False
        if e == 0 and errands[e][1][r][0] == "back":
            if not any(o in rule[3] and p in rule[4] for o, p in pairs):
                return False
    wanted = [(e, 0, tuple((p, p) for p in range(rule[1]))) for e in range(len(errands))]
    wanted += [made for made, word in plain_followers(book, rule, {course: [] for course in table})]
    return all(course in table for course in wanted)


def plain_broken(book, rule, courses):
    """The least word of a run that is over which the rule doesn't let by, None where there is none."""
    wrong = []
    for (e, r, pairs), word in courses.items():
        if e == 0 and book[1][e][1][r][0] == "back" and not any(o in rule[3] and p in rule[4] for o, p in pairs):
            wrong.append(word)
    return min(wrong, key=lambda word: word_key(book[0], word), default=None)


# Errand 0 says a b, then asks errand 1 or itself, and is back.
CALLER = (
    ONE,
    (
        ("a", (("say", "b", (0, 1)), ("ask", (0, 1), (("c", 2),)), ("back", "c"))),
        ("a", (("say", "b", (0, 1)), ("back", "c"))),
    ),
)
# Each of both closes leads on elsewhere, one of them to two rows.
CHOOSER = (
    TWO,
    (
        (
            "z",
            (
                ("ask", (0, 1), (("down", 1), ("down", 2), ("y", 0))),
                ("say", "dot", (2,)),
                ("back", "y"),
            ),
        ),
        ("up", (("say", "m", (1, 2)), ("back", "down"), ("back", "y"))),
    ),
)
# Never over: errand 0 asks itself for ever.
NEVER_OVER = (ONE, (("a", (("ask", (0,), (("c", 1),)), ("back", "c"))),))
# Over at once.
AT_ONCE = (ONE, (("a", (("back", "c"),)),))
