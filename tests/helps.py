"""Small things that several tests need: sheets, words, plain ways to judge."""

import copy
import random

from echohall.errors import TooMany
from echohall.oneway import one_way
from echohall.watch import Watch

ONE = (("a",), ("b",), ("c",))
# The order of this sheet is not that of the alphabet.
TWO = (("z", "up"), ("m", "dot"), ("y", "down"))
BARE = (("a",), (), ("c",))


def shut_words(sheet, most):
    """All shut words of at most so many letters, fewer letters first."""
    by_size = [[()]]
    for size in range(1, most + 1):
        words = []
        for b in sheet[1]:
            words += [(b,) + rest for rest in by_size[size - 1]]
        for inner in range(0, size - 1):
            for a in sheet[0]:
                for c in sheet[2]:
                    for within in by_size[inner]:
                        words += [(a,) + within + (c,) + rest for rest in by_size[size - 2 - inner]]
        by_size.append(words)
    return [list(word) for words in by_size for word in words]


def all_words(sheet, most):
    """All words, shut or not, of at most so many letters."""
    letters = sheet[0] + sheet[1] + sheet[2]
    rows = [[()]]
    for size in range(most):
        rows.append([word + (letter,) for word in rows[-1] for letter in letters])
    return [list(word) for row in rows for word in row]


def configs(machine, letters):
    """All (room, pile) to which walks lead, the pile of (mark, room behind the open), first room below."""
    now = {(p, ((None, p),)) for p in machine[3]}
    for letter in letters:
        now = configs_behind(machine, now, letter)
    return now


def configs_behind(machine, now, letter):
    """All (room, pile) to which a letter leads from these."""
    behind = set()
    for room, pile in now:
        for move in machine[5]:
            if move[1] != room:
                continue
            if move[0] == "plain" and move[2] == letter:
                behind.add((move[3], pile))
            elif move[0] == "open" and move[2] == letter:
                behind.add((move[4], pile + ((move[3], move[4]),)))
            elif move[0] == "close" and move[3] == letter and pile[-1][0] == move[2]:
                behind.add((move[4], pile[:-1]))
    return behind


def plain_lets(machine, word):
    """Whether some walk of a shut word is one, by all piles that there can be."""
    return any(room in machine[4] for room, pile in configs(machine, word))


def plain_holds(machine, letters):
    return sorted({(pile[-1][1], room) for room, pile in configs(machine, letters)})


def opens_left(sheet, letters):
    """How many opens aren't answered; None where a close is bare."""
    left = 0
    for letter in letters:
        left += 1 if letter in sheet[0] else -1 if letter in sheet[2] else 0
        if left < 0:
            return None
    return left


def all_moves(sheet, rooms, marks):
    moves = []
    for p in range(rooms):
        for q in range(rooms):
            moves += [("plain", p, b, q) for b in sheet[1]]
            for m in range(marks):
                moves += [("open", p, a, m, q) for a in sheet[0]]
                moves += [("close", p, m, c, q) for c in sheet[2]]
    return sorted(moves)


def some_machine(seed, sheet=ONE, rooms=3, marks=2, share=3):
    """A machine made by a seed, with about one in share of all moves."""
    dice = random.Random(seed)
    moves = tuple(move for move in all_moves(sheet, rooms, marks) if dice.randrange(share) == 0)
    firsts = tuple(p for p in range(rooms) if dice.randrange(2) == 0) or (dice.randrange(rooms),)
    lasts = tuple(p for p in range(rooms) if dice.randrange(2) == 0)
    return (sheet, rooms, marks, firsts, lasts, moves)


def long_word(seed, sheet, size):
    """A shut word of about so many letters, made by a seed."""
    dice = random.Random(seed)
    word = []
    left = 0
    while len(word) + left < size:
        pick = dice.randrange(3)
        if pick == 0 and sheet[1]:
            word.append(dice.choice(sheet[1]))
        elif pick == 1 and left:
            word.append(dice.choice(sheet[2]))
            left -= 1
        elif len(word) + left + 2 <= size:
            word.append(dice.choice(sheet[0]))
            left += 1
        elif sheet[1]:
            word.append(dice.choice(sheet[1]))
        else:
            break
    return word + [dice.choice(sheet[2]) for _ in range(left)]


def kept(test, function, *handed, **named):
    """What a function tells, having looked that what was handed in stayed as it was."""
    before = copy.deepcopy(handed)
    told = function(*handed, **named)
    test.assertEqual(before, handed)
    return told


def refused(test, kind, function, *handed, **named):
    """The refusal of just this kind, having looked that what was handed in stayed as it was."""
    before = copy.deepcopy(handed)
    with test.assertRaises(kind) as caught:
        function(*handed, **named)
    test.assertIs(type(caught.exception), kind)
    test.assertEqual(before, handed)
    return caught.exception


def plain_answer_places(sheet, word):
    """For each place of a shut word the place of its open, or of its close."""
    told, waiting = {}, []
    for place, letter in enumerate(word):
        if letter in sheet[0]:
            waiting.append(place)
        elif letter in sheet[2]:
            told[place] = waiting.pop()
            told[told[place]] = place
    return told


def plain_is_walk(machine, word, moves):
    """Point 8, word for word."""
    sheet, rooms, marks, firsts, lasts, known = machine
    if len(moves) != len(word):
        return False
    if not word:
        return bool(set(firsts) & set(lasts))
    told = plain_answer_places(sheet, word)
    room = None
    for place, (letter, move) in enumerate(zip(word, moves)):
        if move not in known:
            return False
        if room is None and move[1] not in firsts or room is not None and move[1] != room:
            return False
        if letter not in move:
            return False
        if move[0] == "close" and moves[told[place]][3] != move[2]:
            return False
        room = move[-1]
    return room in lasts


def plain_shows_bar(machine, word, lists):
    """Point 9, word for word."""
    sheet, rooms, marks, firsts, lasts, known = machine
    if len(lists) != len(word) + 1:
        return False
    told = plain_answer_places(sheet, word)
    wanted = [(0, (p, p)) for p in firsts]
    for k, letter in enumerate(word):
        for o, p in lists[k]:
            for move in known:
                if move[:3] == ("plain", p, letter):
                    wanted.append((k + 1, (o, move[3])))
                if move[:3] == ("open", p, letter):
                    wanted.append((k + 1, (move[4], move[4])))
        if letter in sheet[2]:
            j = told[k]
            begins = [move for move in known if move[0] == "open" and move[2] == word[j]]
            ends = [move for move in known if move[0] == "close" and move[3] == letter]
            for begin in begins:
                for end in ends:
                    if begin[3] == end[2] and (begin[4], end[1]) in lists[k]:
                        wanted += [(k + 1, (o, end[4])) for o, p in lists[j] if p == begin[1]]
    if any(p in lasts for o, p in lists[-1]):
        return False
    return all(pair in lists[k] for k, pair in wanted)


def is_shaped_move(machine, move):
    sheet, rooms, marks = machine[:3]
    if not isinstance(move, tuple) or any(isinstance(part, bool) for part in move):
        return False
    numbers, inside = range(marks), range(rooms)
    if move[0] == "plain":
        kind, p, b, q = move
        return p in inside and b in sheet[1] and q in inside
    if move[0] == "open":
        kind, p, a, m, q = move
        return p in inside and a in sheet[0] and m in numbers and q in inside
    kind, p, m, c, q = move
    return kind == "close" and p in inside and m in numbers and c in sheet[2] and q in inside


def is_shaped(machine):
    """Point 7, but for how many rooms, marks and moves there may be."""
    sheet, rooms, marks, firsts, lasts, moves = machine
    for row in (firsts, lasts, moves):
        if not isinstance(row, tuple) or any(not one < other for one, other in zip(row, row[1:])):
            return False
    if not isinstance(machine, tuple) or not firsts or rooms < 1 or marks < 0:
        return False
    return all(room in range(rooms) for room in firsts + lasts) and all(is_shaped_move(machine, m) for m in moves)


def word_key(sheet, word):
    """By this the order of words is the order of Python."""
    letters = sheet[0] + sheet[1] + sheet[2]
    return (len(word), [letters.index(letter) for letter in word])


def in_order(sheet, words):
    return sorted(words, key=lambda word: word_key(sheet, word))


def plain_stretch(machine, word):
    """All pairs of rooms between which a shut word leads, by all piles that there can be."""
    pairs = []
    for p in range(machine[1]):
        begun = machine[:3] + ((p,),) + machine[4:]
        pairs += sorted({(p, room) for room, pile in configs(begun, word)})
    return tuple(pairs)


def plain_leasts(machine):
    """The least word between each two rooms: all words are put together until none gets lesser."""
    sheet, rooms, marks, firsts, lasts, moves = machine
    key = lambda word: word_key(sheet, word)
    found = {(p, p): [] for p in range(rooms)}
    changed = True
    while changed:
        changed = False
        parts = {}
        for move in moves:
            if move[0] == "plain":
                parts.setdefault((move[1], move[3]), []).append([move[2]])
        for _, q, a, m, r in [move for move in moves if move[0] == "open"]:
            for _, s, n, c, t in [move for move in moves if move[0] == "close"]:
                if m == n and (r, s) in found:
                    parts.setdefault((q, t), []).append([a] + found[(r, s)] + [c])
        for (q, t), words in parts.items():
            part = min(words, key=key)
            for p in range(rooms):
                if (p, q) in found:
                    word = found[(p, q)] + part
                    if (p, t) not in found or key(word) < key(found[(p, t)]):
                        found[(p, t)] = word
                        changed = True
    return found


def machine_of_plains(sheet, sizes, more):
    """Lets by rows of the sheet's first plain: of how many letters is told by sizes, and from more on of any."""
    b = sheet[1][0]
    last = max(list(sizes) + [more or 0])
    moves = [("plain", p, b, p + 1) for p in range(last)]
    lasts = set(sizes)
    if more is not None:
        lasts.add(last)
        moves.append(("plain", last, b, last))
        lasts |= set(range(more, last))
    return (sheet, last + 1, 0, (0,), tuple(sorted(lasts)), tuple(sorted(moves)))


def machine_of_400(more):
    """Lets by one word alone, of 400 letters, or of 401 with one plain more at its end."""
    # From the room k to 0 a word of 2 ** (k + 1) - 2 letters; from 8 to 12 four of these, each in a pair.
    moves = []
    for k in range(1, 8):
        moves += [("open", k, "a", k, k - 1), ("close", 0, k, "c", k - 1)]
    for at, k in enumerate((7, 6, 2, 2)):
        moves += [("open", 8 + at, "a", 8 + at, k), ("close", 0, 8 + at, "c", 9 + at)]
    if more:
        moves.append(("plain", 12, "b", 13))
    return (ONE, 12 + 1 + more, 12, (8,), (12 + more,), tuple(sorted(moves)))


# A machine with few moves, between whose rooms the least words have hundreds of letters.
WINDING = (
    ONE,
    6,
    6,
    (0,),
    (5,),
    (
        ("close", 0, 2, "c", 4),
        ("close", 0, 5, "c", 3),
        ("close", 1, 1, "c", 0),
        ("close", 1, 1, "c", 4),
        ("close", 1, 3, "c", 0),
        ("close", 1, 4, "c", 5),
        ("close", 1, 5, "c", 4),
        ("close", 2, 3, "c", 1),
        ("close", 3, 0, "c", 2),
        ("close", 3, 1, "c", 4),
        ("close", 3, 3, "c", 4),
        ("close", 3, 4, "c", 0),
        ("close", 4, 3, "c", 0),
        ("close", 5, 3, "c", 2),
        ("open", 0, "a", 0, 1),
        ("open", 0, "a", 5, 4),
        ("open", 0, "a", 5, 5),
        ("open", 1, "a", 0, 2),
        ("open", 1, "a", 2, 3),
        ("open", 1, "a", 4, 3),
        ("open", 2, "a", 3, 5),
        ("open", 3, "a", 5, 4),
        ("open", 4, "a", 1, 5),
        ("open", 4, "a", 3, 3),
        ("open", 4, "a", 5, 2),
        ("open", 5, "a", 1, 2),
        ("open", 5, "a", 2, 1),
        ("open", 5, "a", 2, 4),
        ("open", 5, "a", 4, 0),
    ),
)


# The telling of the machine that lets by an even number of plains and no pairs.
EVEN_TOLD = (
    ONE,
    ((), ("b",), ("a", "c")),
    (0,),
    (1,),
    ((0, 1, 2), (1, 0, 2), (2, 2, 2)),
    (((2, 2, 2),),),
)
# The telling of the machine that lets by pairs of like place in the sheet alone: z with y, up with down.
NAMED_TOLD = (
    TWO,
    ((), ("z", "down")),
    (0,),
    (0, 0),
    ((0, 1), (1, 1)),
    (((0, 1), (1, 1)), ((1, 1), (0, 1))),
)


def plain_written(great):
    """The word that a great word of small counts writes."""
    if great[0] == "word":
        return list(great[1])
    if great[0] == "row":
        return [letter for part in great[1] for letter in plain_written(part)]
    if great[0] == "again":
        return [letter for _ in range(great[1]) for letter in plain_written(great[2])]
    return [great[2]] * great[1] + plain_written(great[3]) + [great[4]] * great[1]


def some_great(seed, sheet, deep=4, most=3):
    """A great word made by a seed, with counts of at most so many."""
    dice = random.Random(seed)
    words = shut_words(sheet, 4)

    def made(left):
        form = dice.choice(("word", "row", "again", "wrap")) if left > 1 else "word"
        if form == "word":
            return ("word", tuple(dice.choice(words)))
        if form == "row":
            return ("row", tuple(made(left - 1) for _ in range(dice.randrange(4))))
        many = dice.randrange(most + 1)
        if form == "again":
            return ("again", many, made(left - 1))
        return ("wrap", many, dice.choice(sheet[0]), made(left - 1), dice.choice(sheet[2]))

    return made(deep)


def how_many_shut(sheet, n):
    """How many shut words of n letters a sheet has."""
    counts = [1]
    for size in range(1, n + 1):
        pairs = sum(counts[inner] * counts[size - 2 - inner] for inner in range(size - 1))
        counts.append(len(sheet[1]) * counts[size - 1] + len(sheet[0]) * len(sheet[2]) * pairs)
    return counts[n]


def how_many_by_depth(sheet, n, deep):
    """How many shut words of n letters are no deeper than so, letter by letter."""
    now = {0: 1}
    for _ in range(n):
        behind = {}
        for depth, many in now.items():
            for more, ways in ((1, len(sheet[0])), (0, len(sheet[1])), (-1, len(sheet[2]))):
                if 0 <= depth + more <= deep:
                    behind[depth + more] = behind.get(depth + more, 0) + many * ways
        now = behind
    return now.get(0, 0)


def one_way_machines():
    """One-way machines of three sheets, told of machines made by seeds."""
    found = []
    for seed in range(45):
        sheet = (ONE, BARE, TWO)[seed % 3]
        machine = some_machine(seed, sheet, rooms=2 + seed % 2, marks=1 + seed % 2, share=2 + seed % 3)
        try:
            found.append(one_way(machine, 20)[0])
        except TooMany:
            continue
    return found


def plain_rest(machine, letters, most):
    """The least rest of at most so many letters, found by leading on all piles; None where there is none so short."""
    sheet, lasts = machine[0], machine[4]
    order = sheet[0] + sheet[1] + sheet[2]
    now = [((), configs(machine, letters))]
    for size in range(most + 1):
        for word, found in now:
            if any(len(pile) == 1 and room in lasts for room, pile in found):
                return list(word)
        behind, seen = [], set()
        for word, found in now:
            for letter in order:
                led = configs_behind(machine, found, letter)
                led = frozenset(config for config in led if len(config[1]) - 1 <= most - size - 1)
                if led and led not in seen:
                    seen.add(led)
                    behind.append((word + (letter,), led))
        now = behind
    return None


def plain_shows_loss(machine, letters, loss):
    """Point 31, word for word."""
    sheet, rooms, marks, firsts, lasts, moves = machine
    pairs, levels = loss
    inside = range(rooms)
    if not all(p in inside and q in inside for row in [pairs] + levels for p, q in row):
        return False
    if not plain_is_reach(machine, pairs):
        return False
    waiting = []
    for place, letter in enumerate(letters):
        if letter in sheet[0]:
            waiting.append(place)
        elif letter in sheet[2]:
            waiting.pop()
    if len(levels) != len(waiting) + 1:
        return False
    holds = plain_holds(machine, letters)
    if any((o, s) not in levels[0] for o, p in holds for q, s in pairs if q == p):
        return False
    opens = [move for move in moves if move[0] == "open"]
    closes = [move for move in moves if move[0] == "close"]
    for here, behind, place in zip(levels, levels[1:], waiting[::-1]):
        holds = plain_holds(machine, letters[:place])
        for _, p, a, m, o in opens:
            for _, q, n, c, r in closes:
                if a == letters[place] and m == n and (o, q) in here:
                    wanted = [(x, s) for x, y in holds if y == p for t, s in pairs if t == r]
                    if any(pair not in behind for pair in wanted):
                        return False
    return not any(q in lasts for o, q in levels[-1])


def plain_is_reach(machine, pairs):
    """Point 14, word for word."""
    sheet, rooms, marks, firsts, lasts, moves = machine
    wanted = [(p, p) for p in range(rooms)]
    for p, q in pairs:
        wanted += [(p, move[3]) for move in moves if move[0] == "plain" and move[1] == q]
        for _, x, a, m, r in [move for move in moves if move[0] == "open" and move[1] == q]:
            for _, s, n, c, t in [move for move in moves if move[0] == "close"]:
                if m == n and (r, s) in pairs:
                    wanted.append((p, t))
    return all(pair in pairs for pair in wanted)


def watch_of(machine, letters):
    """A watch that has heard these letters."""
    watch = Watch(machine)
    for letter in letters:
        watch.hear(letter)
    return watch
