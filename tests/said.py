"""Sayings for the tests, and a plain way to judge them."""

import random

HEADS = {"is": 0, "not": 1, "both": 2, "ahead": 1, "beside": 1, "around": 1, "since": 2, "level": 2}


def plain_holder(sheet, word, place):
    """The last open ahead of a place that no close at it or ahead of it answers; None where there is none."""
    waiting = []
    for at in range(place + 1):
        if word[at] in sheet[2] and waiting:
            waiting.pop()
        if word[at] in sheet[0] and at < place:
            waiting.append(at)
    return waiting[-1] if waiting else None


def plain_beside(sheet, word, place):
    holder = plain_holder(sheet, word, place)
    found = [at for at in range(place) if plain_holder(sheet, word, at) == holder]
    return found[-1] if found else None


def plain_truth(sheet, word, saying, place):
    """Point 28, word for word."""
    if place is None or place < 0:
        return False
    head, parts = saying[0], saying[1:]
    if head == "is":
        return word[place] == parts[0]
    if head == "not":
        return not plain_truth(sheet, word, parts[0], place)
    if head == "both":
        return all(plain_truth(sheet, word, part, place) for part in parts)
    there = {
        "ahead": place - 1,
        "since": place - 1,
        "beside": plain_beside(sheet, word, place),
        "level": plain_beside(sheet, word, place),
        "around": plain_holder(sheet, word, place),
    }[head]
    if head in ("since", "level"):
        if plain_truth(sheet, word, parts[1], place):
            return True
        return plain_truth(sheet, word, parts[0], place) and plain_truth(sheet, word, saying, there)
    return plain_truth(sheet, word, parts[0], there)


def plain_truths(sheet, word, saying):
    return [plain_truth(sheet, word, saying, place) for place in range(len(word))]


def all_within(saying):
    """The saying and all sayings within it."""
    if saying[0] == "is":
        return [saying]
    return [saying] + [inner for part in saying[1:] for inner in all_within(part)]


def some_saying(seed, sheet, deep=3, most=7):
    """A saying made by a seed, at most so deep and with at most so many in all."""
    dice = random.Random(seed)
    letters = sheet[0] + sheet[1] + sheet[2]

    def made(left, room):
        heads = [head for head, many in HEADS.items() if many == 0 or (left > 1 and many < room)]
        if len(heads) > 1 and dice.randrange(4):
            heads = [head for head in heads if head != "is"]
        head = dice.choice(heads)
        if head == "is":
            return (head, dice.choice(letters))
        if HEADS[head] == 1:
            return (head, made(left - 1, room - 1))
        first = made(left - 1, (room - 1) // 2)
        return (head, first, made(left - 1, room - 1 - len(all_within(first))))

    return made(deep, most)


def nested(head, many, saying):
    """A saying within so many others of one head, with one part each."""
    for _ in range(many):
        saying = (head, saying)
    return saying


def plain_look(sheet, word, saying):
    """Point 29: what is so at the last letter, at the last place of the level, and at the open around it."""

    def so_at(place):
        return None if place is None else tuple(plain_truth(sheet, word, part, place) for part in all_within(saying))

    waiting = []
    for place, letter in enumerate(word):
        if letter in sheet[0]:
            waiting.append(place)
        elif letter in sheet[2]:
            waiting.pop()
    around = waiting[-1] if waiting else None
    beside = [place for place in range(len(word)) if plain_holder(sheet, word, place) == around]
    return (so_at(len(word) - 1 if word else None), so_at(beside[-1] if beside else None), so_at(around))


def plain_looks(sheet, saying, most):
    """All looks behind letters with no bare close, of at most so many letters.

    Letters behind which all looks, from the innermost level to the outermost, were seen already aren't gone on with.
    """
    found, seen = set(), set()
    now = [((), ())]
    for size in range(most + 1):
        behind = []
        for word, pile in now:
            look = plain_look(sheet, word, saying)
            found.add(look)
            if (look, pile) in seen:
                continue
            seen.add((look, pile))
            behind += [(word + (a,), pile + (look[2],)) for a in sheet[0]]
            behind += [(word + (b,), pile) for b in sheet[1]]
            if pile:
                behind += [(word + (c,), pile[:-1]) for c in sheet[2]]
        now = behind
    return found
