"""Small things that several tests need: sheets, words, plain ways to judge."""

import copy
import random

ONE = (("a",), ("b",), ("c",))
# The order of this sheet is not that of the alphabet.
TWO = (("z", "up"), ("m", "dot"), ("y", "down"))
BARE = (("a",), (), ("c",))


def shut_words(sheet, most):
    """All shut words of at most so many letters, fewer letters first."""
    by_size = [[()]]
    for size in range(1, most + 1):
        words = []
        for b in sheet[1]:
            words += [(b,) + rest for rest in by_size[size - 1]]
        for inner in range(0, size - 1):
            for a in sheet[0]:
                for c in sheet[2]:
                    for within in by_size[inner]:
                        words += [(a,) + within + (c,) + rest for rest in by_size[size - 2 - inner]]
        by_size.append(words)
    return [list(word) for words in by_size for word in words]


def all_words(sheet, most):
    """All words, shut or not, of at most so many letters."""
    letters = sheet[0] + sheet[1] + sheet[2]
    rows = [[()]]
    for size in range(most):
        rows.append([word + (letter,) for word in rows[-1] for letter in letters])
    return [list(word) for row in rows for word in row]


def configs(machine, letters):
    """All (room, pile) to which walks lead, the pile of (mark, room behind the open), first room below."""
    now = {(p, ((None, p),)) for p in machine[3]}
    for letter in letters:
        behind = set()
        for room, pile in now:
            for move in machine[5]:
                if move[1] != room:
                    continue
                if move[0] == "plain" and move[2] == letter:
                    behind.add((move[3], pile))
                elif move[0] == "open" and move[2] == letter:
                    behind.add((move[4], pile + ((move[3], move[4]),)))
                elif move[0] == "close" and move[3] == letter and pile[-1][0] == move[2]:
                    behind.add((move[4], pile[:-1]))
        now = behind
    return now


def plain_lets(machine, word):
    """Whether some walk of a shut word is one, by all piles that there can be."""
    return any(room in machine[4] for room, pile in configs(machine, word))


def plain_holds(machine, letters):
    return sorted({(pile[-1][1], room) for room, pile in configs(machine, letters)})


def opens_left(sheet, letters):
    """How many opens aren't answered; None where a close is bare."""
    left = 0
    for letter in letters:
        left += 1 if letter in sheet[0] else -1 if letter in sheet[2] else 0
        if left < 0:
            return None
    return left


def all_moves(sheet, rooms, marks):
    moves = []
    for p in range(rooms):
        for q in range(rooms):
            moves += [("plain", p, b, q) for b in sheet[1]]
            for m in range(marks):
                moves += [("open", p, a, m, q) for a in sheet[0]]
                moves += [("close", p, m, c, q) for c in sheet[2]]
    return sorted(moves)


def some_machine(seed, sheet=ONE, rooms=3, marks=2, share=3):
    """A machine made by a seed, with about one in share of all moves."""
    dice = random.Random(seed)
    moves = tuple(move for move in all_moves(sheet, rooms, marks) if dice.randrange(share) == 0)
    firsts = tuple(p for p in range(rooms) if dice.randrange(2) == 0) or (dice.randrange(rooms),)
    lasts = tuple(p for p in range(rooms) if dice.randrange(2) == 0)
    return (sheet, rooms, marks, firsts, lasts, moves)


def long_word(seed, sheet, size):
    """A shut word of about so many letters, made by a seed."""
    dice = random.Random(seed)
    word = []
    left = 0
    while len(word) + left < size:
        pick = dice.randrange(3)
        if pick == 0 and sheet[1]:
            word.append(dice.choice(sheet[1]))
        elif pick == 1 and left:
            word.append(dice.choice(sheet[2]))
            left -= 1
        elif len(word) + left + 2 <= size:
            word.append(dice.choice(sheet[0]))
            left += 1
        elif sheet[1]:
            word.append(dice.choice(sheet[1]))
        else:
            break
    return word + [dice.choice(sheet[2]) for _ in range(left)]


def kept(test, function, *handed, **named):
    """What a function tells, having looked that what was handed in stayed as it was."""
    before = copy.deepcopy(handed)
    told = function(*handed, **named)
    test.assertEqual(before, handed)
    return told


def refused(test, kind, function, *handed, **named):
    """The refusal of just this kind, having looked that what was handed in stayed as it was."""
    before = copy.deepcopy(handed)
    with test.assertRaises(kind) as caught:
        function(*handed, **named)
    test.assertIs(type(caught.exception), kind)
    test.assertEqual(before, handed)
    return caught.exception


def plain_answer_places(sheet, word):
    """For each place of a shut word the place of its open, or of its close."""
    told, waiting = {}, []
    for place, letter in enumerate(word):
        if letter in sheet[0]:
            waiting.append(place)
        elif letter in sheet[2]:
            told[place] = waiting.pop()
            told[told[place]] = place
    return told


def plain_is_walk(machine, word, moves):
    """Point 8, word for word."""
    sheet, rooms, marks, firsts, lasts, known = machine
    if len(moves) != len(word):
        return False
    if not word:
        return bool(set(firsts) & set(lasts))
    told = plain_answer_places(sheet, word)
    room = None
    for place, (letter, move) in enumerate(zip(word, moves)):
        if move not in known:
            return False
        if room is None and move[1] not in firsts or room is not None and move[1] != room:
            return False
        if letter not in move:
            return False
        if move[0] == "close" and moves[told[place]][3] != move[2]:
            return False
        room = move[-1]
    return room in lasts


def plain_shows_bar(machine, word, lists):
    """Point 9, word for word."""
    sheet, rooms, marks, firsts, lasts, known = machine
    if len(lists) != len(word) + 1:
        return False
    told = plain_answer_places(sheet, word)
    wanted = [(0, (p, p)) for p in firsts]
    for k, letter in enumerate(word):
        for o, p in lists[k]:
            for move in known:
                if move[:3] == ("plain", p, letter):
                    wanted.append((k + 1, (o, move[3])))
                if move[:3] == ("open", p, letter):
                    wanted.append((k + 1, (move[4], move[4])))
        if letter in sheet[2]:
            j = told[k]
            begins = [move for move in known if move[0] == "open" and move[2] == word[j]]
            ends = [move for move in known if move[0] == "close" and move[3] == letter]
            for begin in begins:
                for end in ends:
                    if begin[3] == end[2] and (begin[4], end[1]) in lists[k]:
                        wanted += [(k + 1, (o, end[4])) for o, p in lists[j] if p == begin[1]]
    if any(p in lasts for o, p in lists[-1]):
        return False
    return all(pair in lists[k] for k, pair in wanted)


def is_shaped_move(machine, move):
    sheet, rooms, marks = machine[:3]
    if not isinstance(move, tuple) or any(isinstance(part, bool) for part in move):
        return False
    numbers, inside = range(marks), range(rooms)
    if move[0] == "plain":
        kind, p, b, q = move
        return p in inside and b in sheet[1] and q in inside
    if move[0] == "open":
        kind, p, a, m, q = move
        return p in inside and a in sheet[0] and m in numbers and q in inside
    kind, p, m, c, q = move
    return kind == "close" and p in inside and m in numbers and c in sheet[2] and q in inside


def is_shaped(machine):
    """Point 7, but for how many rooms, marks and moves there may be."""
    sheet, rooms, marks, firsts, lasts, moves = machine
    for row in (firsts, lasts, moves):
        if not isinstance(row, tuple) or any(not one < other for one, other in zip(row, row[1:])):
            return False
    if not isinstance(machine, tuple) or not firsts or rooms < 1 or marks < 0:
        return False
    return all(room in range(rooms) for room in firsts + lasts) and all(is_shaped_move(machine, m) for m in moves)
