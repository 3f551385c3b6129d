"""Whole numbers, letters, sheets, and the order of words."""

from echohall.errors import NoLetter

SMALL = "abcdefghijklmnopqrstuvwxyz"
MOST_SIGNS = 8
MOST_OF_A_PART = 4


def is_whole(thing):
    # Python counts True and False among the ints.
    return isinstance(thing, int) and not isinstance(thing, bool)


def is_letter(thing):
    if not isinstance(thing, str):
        return False
    return 1 <= len(thing) <= MOST_SIGNS and all(sign in SMALL for sign in thing)


def is_sheet(thing):
    if not isinstance(thing, tuple) or len(thing) != 3:
        return False
    opens, plains, closes = thing
    if not (is_part(opens, 1) and is_part(plains, 0) and is_part(closes, 1)):
        return False
    letters = opens + plains + closes
    return len(set(letters)) == len(letters)


def is_part(thing, least):
    """Whether a thing is one part of a sheet, of no fewer letters than least."""
    if not isinstance(thing, tuple) or not least <= len(thing) <= MOST_OF_A_PART:
        return False
    return all(is_letter(letter) for letter in thing)


def order_of(sheet):
    """The number that each letter has in the order of the sheet."""
    opens, plains, closes = sheet
    return {letter: number for number, letter in enumerate(opens + plains + closes)}


def need_word(sheet, word):
    """Refuse a word with a text in it that is no letter of the sheet."""
    order = order_of(sheet)
    for place, letter in enumerate(word):
        if letter not in order:
            raise NoLetter(place)


def is_less(sheet, one, other):
    need_word(sheet, one)
    need_word(sheet, other)
    if len(one) != len(other):
        return len(one) < len(other)
    order = order_of(sheet)
    return [order[letter] for letter in one] < [order[letter] for letter in other]
