"""Great words: shut words told by how often and around what their parts stand.

Nothing here writes a great word out but the function that is asked for just
that: counts within counts are soon beyond all that could be written.
"""

from echohall.errors import TooMany
from echohall.nests import answers, depth_of, is_shut
from echohall.signs import is_whole

MOST_TIMES = 10 ** 60
MOST_IN_A_WORD = 60
MOST_IN_A_ROW = 8
MOST_WITHIN = 10
MOST_IN_ALL = 40
MOST_WRITTEN = 400


def is_times(thing):
    return is_whole(thing) and 0 <= thing <= MOST_TIMES


def is_short_shut(sheet, thing):
    if not isinstance(thing, tuple) or len(thing) > MOST_IN_A_WORD:
        return False
    letters = sheet[0] + sheet[1] + sheet[2]
    # Other things than letters are found out first, as not all of them can be keys.
    return all(letter in letters for letter in thing) and is_shut(sheet, list(thing))


def is_form(sheet, thing):
    """Whether a thing is a great word, but for its parts and how many there are."""
    if not isinstance(thing, tuple) or not 2 <= len(thing) <= 5:
        return False
    if thing[0] == "word":
        return len(thing) == 2 and is_short_shut(sheet, thing[1])
    if thing[0] == "row":
        return len(thing) == 2 and isinstance(thing[1], tuple) and len(thing[1]) <= MOST_IN_A_ROW
    if thing[0] == "again":
        return len(thing) == 3 and is_times(thing[1])
    if thing[0] != "wrap" or len(thing) != 5 or not is_times(thing[1]):
        return False
    return thing[2] in sheet[0] and thing[4] in sheet[2]


def parts_in(great):
    if great[0] == "word":
        return []
    if great[0] == "row":
        return list(great[1])
    return [great[2]] if great[0] == "again" else [great[3]]


def is_great(sheet, thing):
    seen = 0
    waiting = [(thing, 1)]
    while waiting:
        part, level = waiting.pop()
        seen += 1
        if seen > MOST_IN_ALL or level > MOST_WITHIN or not is_form(sheet, part):
            return False
        waiting.extend([(inner, level + 1) for inner in parts_in(part)])
    return True


def length_of(great):
    if great[0] == "word":
        return len(great[1])
    within = sum([length_of(part) for part in parts_in(great)])
    if great[0] == "again":
        return great[1] * within
    if great[0] == "wrap":
        return 2 * great[1] + within
    return within


def deepest_of(sheet, great):
    if great[0] == "word":
        return depth_of(sheet, list(great[1]))
    within = max([deepest_of(sheet, part) for part in parts_in(great)], default=0)
    if great[0] == "again" and great[1] == 0:
        return 0
    if great[0] == "wrap":
        return great[1] + within
    return within


def many_of(great, letter):
    if great[0] == "word":
        return great[1].count(letter)
    within = sum([many_of(part, letter) for part in parts_in(great)])
    if great[0] == "again":
        return great[1] * within
    if great[0] == "wrap":
        return great[1] * [great[2], great[4]].count(letter) + within
    return within


def part_at(great, place):
    """(part, place, ahead): the word or wrap whose own letter stands at a place that there is.

    The place is told within this part, ahead is how many letters stand ahead of the part.
    """
    ahead = 0
    while not is_own(great, place):
        part, before = stepped_in(great, place)
        great, place, ahead = part, place - before, ahead + before
    return (great, place, ahead)


def is_own(great, place):
    """Whether the letter at a place is written by this part itself."""
    if great[0] == "wrap":
        return place < great[1] or place >= length_of(great) - great[1]
    return great[0] == "word"


def stepped_in(great, place):
    """The part within in which the place lies, and how many letters stand ahead of it."""
    if great[0] == "wrap":
        return (great[3], great[1])
    if great[0] == "again":
        size = length_of(great[2])
        return (great[2], place // size * size)
    before = 0
    for part in great[1]:
        size = length_of(part)
        if place < before + size:
            return (part, before)
        before += size
    return None


def is_place(great, place):
    return 0 <= place < length_of(great)


def letter_at(great, place):
    if not is_place(great, place):
        return None
    part, at, ahead = part_at(great, place)
    if part[0] == "word":
        return part[1][at]
    return part[2] if at < part[1] else part[4]


def answer_at(sheet, great, place):
    if not is_place(great, place):
        return None
    part, at, ahead = part_at(great, place)
    if part[0] == "wrap":
        return ahead + length_of(part) - 1 - at
    told = answers(sheet, list(part[1]))[at]
    return None if told is None else ahead + told


def written(great):
    if length_of(great) > MOST_WRITTEN:
        raise TooMany(f"more than {MOST_WRITTEN} letters")
    return letters_of(great)


def letters_of(great):
    # A part that writes none may hold counts and words of any size, so it isn't looked into.
    if length_of(great) == 0:
        return []
    if great[0] == "word":
        return list(great[1])
    within = []
    for part in parts_in(great):
        within += letters_of(part)
    if great[0] == "again":
        return within * great[1]
    if great[0] == "wrap":
        return [great[2]] * great[1] + within + [great[4]] * great[1]
    return within
