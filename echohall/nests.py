"""Which letter answers which, and the boughs of shut words."""

from echohall.errors import NotShut
from echohall.signs import need_word


def answers(sheet, word):
    need_word(sheet, word)
    told = [None] * len(word)
    waiting = []
    for place, letter in enumerate(word):
        if letter in sheet[0]:
            waiting.append(place)
        elif letter in sheet[2] and waiting:
            begun = waiting.pop()
            told[begun] = place
            told[place] = begun
    return told


def alone(sheet, word, told):
    """The places of all bare closes, then of all opens that aren't answered."""
    places = [place for place in range(len(word)) if told[place] is None]
    bare = [place for place in places if word[place] in sheet[2]]
    return bare + [place for place in places if word[place] in sheet[0]]


def need_shut(sheet, word):
    """Refuse a word that isn't shut; tell the answers of one that is."""
    told = answers(sheet, word)
    wrong = alone(sheet, word, told)
    if wrong:
        raise NotShut(wrong[0])
    return told


def is_shut(sheet, word):
    return not alone(sheet, word, answers(sheet, word))


def depth_of(sheet, word):
    need_word(sheet, word)
    depth = 0
    waiting = 0
    for letter in word:
        if letter in sheet[0]:
            waiting += 1
            depth = max(depth, waiting)
        elif letter in sheet[2] and waiting > 0:
            waiting -= 1
    return depth


def boughs(sheet, word):
    need_shut(sheet, word)
    # Words nest deeper than calls may, so the levels are kept in a list.
    levels = [[]]
    begun = []
    for letter in word:
        if letter in sheet[0]:
            begun.append(letter)
            levels.append([])
        elif letter in sheet[2]:
            within = tuple(levels.pop())
            levels[-1].append((begun.pop(), within, letter))
        else:
            levels[-1].append((letter,))
    return tuple(levels[0])


def word_by(boughs):
    word = []
    waiting = list(boughs[::-1])
    while waiting:
        part = waiting.pop()
        if isinstance(part, str):
            word.append(part)
        elif len(part) == 1:
            word.append(part[0])
        else:
            word.append(part[0])
            waiting.append(part[2])
            waiting.extend(part[1][::-1])
    return word
