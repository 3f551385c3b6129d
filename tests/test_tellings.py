import copy
import unittest

from echohall.errors import NoLetter, NotShut, TooLong, TooMany
from echohall.machines import is_one_way
from echohall.oneway import one_way
from echohall.put import again, in_row, joined, turned, wrapped
from echohall.tellings import is_telling, kind_of, machine_by, telling
from echohall.within import alike
from tests.helps import (
    BARE,
    EVEN_TOLD,
    NAMED_TOLD,
    ONE,
    TWO,
    WINDING,
    all_moves,
    all_words,
    configs,
    in_order,
    is_shaped,
    kept,
    long_word,
    machine_of_400,
    machine_of_plains,
    opens_left,
    plain_lets,
    plain_stretch,
    refused,
    shut_words,
    some_machine,
    word_key,
)

# An even number of plains and no pairs.
EVEN = (ONE, 2, 0, (0,), (0,), (("plain", 0, "b", 1), ("plain", 1, "b", 0)))
# Pairs named alike: z with y, up with down; plains anywhere.
NAMED = (
    TWO,
    1,
    2,
    (0,),
    (0,),
    (
        ("close", 0, 0, "y", 0),
        ("close", 0, 1, "down", 0),
        ("open", 0, "up", 1, 0),
        ("open", 0, "z", 0, 0),
        ("plain", 0, "dot", 0),
        ("plain", 0, "m", 0),
    ),
)
# How deep it is, up to two: no plains.
DEEP = (
    BARE,
    4,
    4,
    (0,),
    (2,),
    (
        ("close", 0, 0, "c", 1),
        ("close", 0, 1, "c", 1),
        ("close", 1, 0, "c", 2),
        ("close", 1, 1, "c", 2),
        ("close", 2, 0, "c", 3),
        ("close", 3, 0, "c", 3),
        ("open", 0, "a", 0, 0),
        ("open", 1, "a", 1, 0),
    ),
)


def contexts(sheet, most):
    """All (left, right) of at most so many letters that are shut together."""
    return [(word[:at], word[at:]) for word in shut_words(sheet, most) for at in range(len(word) + 1)]


def behind_last_open(sheet, letters):
    """What stands behind the last open that isn't answered, or all where there is none."""
    waiting = [-1]
    for place, letter in enumerate(letters):
        if letter in sheet[0]:
            waiting.append(place)
        elif letter in sheet[2]:
            waiting.pop()
    return letters[waiting[-1] + 1 :]


def plain_kind_of(told, word):
    """The kind of a shut word by its boughs, one within the other."""
    sheet, words, lets, plains, rows, wraps = told
    kind, place = 0, 0
    while place < len(word):
        if word[place] in sheet[1]:
            part, end = plains[sheet[1].index(word[place])], place + 1
        else:
            end = next(k for k in range(place + 2, len(word) + 1) if opens_left(sheet, word[place:k]) == 0)
            inner = plain_kind_of(told, word[place + 1 : end - 1])
            part = wraps[sheet[0].index(word[place])][sheet[2].index(word[end - 1])][inner]
        kind, place = rows[kind][part], end
    return kind


def is_number(thing, many):
    return type(thing) is int and 0 <= thing < many


def has_form(thing):
    if type(thing) is not tuple or len(thing) != 6 or not all(type(part) is tuple for part in thing):
        return False
    sheet, words, lets, plains, rows, wraps = thing
    many = len(words)
    if len(sheet) != 3 or not 1 <= many <= 8:
        return False
    if len(rows) != many or len(wraps) != len(sheet[0]) or len(plains) != len(sheet[1]):
        return False
    tables = list(rows) + [row for by in wraps if type(by) is tuple and len(by) == len(sheet[2]) for row in by]
    if len(tables) != many + len(sheet[0]) * len(sheet[2]):
        return False
    if any(type(row) is not tuple or len(row) != many for row in tables):
        return False
    numbers = list(lets) + list(plains) + [number for row in tables for number in row]
    return all(is_number(number, many) for number in numbers) and list(lets) == sorted(set(lets))


def parted_pairs(told):
    """All pairs of kinds that some context parts, found from those that lets parts."""
    sheet, words, lets, plains, rows, wraps = told
    many = range(len(rows))
    steps = [list(row) for by in wraps for row in by]
    steps += [[rows[k][l] for k in many] for l in many] + [[rows[l][k] for k in many] for l in many]
    found = {(k, l) for k in many for l in many if (k in lets) != (l in lets)}
    while True:
        more = {(k, l) for k in many for l in many if any((step[k], step[l]) in found for step in steps)}
        if more <= found:
            return found
        found |= more


def least_words(told):
    sheet, words, lets, plains, rows, wraps = told
    found = {0: []}
    while True:
        before = dict(found)
        parts = [([b], plains[at]) for at, b in enumerate(sheet[1])]
        for i, a in enumerate(sheet[0]):
            for j, c in enumerate(sheet[2]):
                parts += [([a] + found[k] + [c], wraps[i][j][k]) for k in before]
        for k in before:
            for word, kind in parts:
                if len(found[k] + word) > 400:
                    continue
                made, whole = rows[k][kind], found[k] + word
                if made not in found or word_key(sheet, whole) < word_key(sheet, found[made]):
                    found[made] = whole
        if before == found:
            return found


def plain_is_telling(thing):
    """Whether these are kinds: put together as words are, all had by words, all parted."""
    if not has_form(thing):
        return False
    sheet, words, lets, plains, rows, wraps = thing
    many = range(len(rows))
    if any(rows[0][k] != k or rows[k][0] != k for k in many):
        return False
    if any(rows[rows[j][k]][l] != rows[j][rows[k][l]] for j in many for k in many for l in many):
        return False
    found = least_words(thing)
    if sorted(found) != list(many) or words != tuple(tuple(found[k]) for k in many):
        return False
    if list(words) != in_order(sheet, words):
        return False
    return len(parted_pairs(thing)) == len(rows) * (len(rows) - 1)


def small_tellings():
    found = []
    for seed in range(60):
        sheet = (ONE, BARE, TWO)[seed % 3]
        machine = some_machine(seed, sheet, rooms=2, marks=1 + seed % 2, share=2 + seed % 3)
        try:
            told = telling(machine, 60)
        except TooMany:
            continue
        if len(told[1]) <= 8 and told not in found:
            found.append(told)
    return found


class Telling(unittest.TestCase):
    def test_by_hand(self):
        never = (ONE, 1, 0, (0,), (), ())
        self.assertEqual(kept(self, telling, never), (ONE, ((),), (), (0,), ((0,),), (((0,),),)))
        every = (ONE, 1, 1, (0,), (0,), tuple(all_moves(ONE, 1, 1)))
        self.assertEqual(telling(every), (ONE, ((),), (0,), (0,), ((0,),), (((0,),),)))
        self.assertEqual(kept(self, telling, EVEN), EVEN_TOLD)
        self.assertEqual(kept(self, telling, NAMED), NAMED_TOLD)

    def test_a_sheet_without_plains(self):
        every = (BARE, 1, 1, (0,), (0,), tuple(all_moves(BARE, 1, 1)))
        self.assertEqual(telling(every), (BARE, ((),), (0,), (), ((0,),), (((0,),),)))
        sheet, words, lets, plains, rows, wraps = telling(DEEP)
        self.assertEqual(plains, ())
        self.assertEqual(words[:3], ((), ("a", "c"), ("a", "a", "c", "c")))
        self.looked(DEEP, telling(DEEP), 8)

    def test_the_order_of_the_sheet_counts(self):
        # z goes ahead of up, and y, though it is behind m, ahead of down.
        moves = (("close", 0, 0, "down", 1), ("close", 0, 0, "y", 1), ("open", 0, "up", 0, 0), ("open", 0, "z", 0, 0))
        told = telling((TWO, 2, 1, (0,), (1,), moves))
        self.assertEqual(told[1], ((), ("m",), ("z", "y")))

    def looked(self, machine, told, most):
        """All that points 18 and 19 say, by the words of at most so many letters."""
        sheet, words, lets, plains, rows, wraps = told
        self.assertTrue(has_form(told) or len(words) > 8)
        self.assertEqual(sheet, machine[0])
        self.assertEqual(list(words), in_order(sheet, words))
        least = {}
        for word in in_order(sheet, shut_words(sheet, most)):
            kind = kept(self, kind_of, told, word)
            self.assertEqual(kind, plain_kind_of(told, word))
            self.assertEqual(kind in lets, plain_lets(machine, word))
            least.setdefault(kind, tuple(word))
        for kind, word in least.items():
            self.assertEqual(word, words[kind])
        for kind, word in enumerate(words):
            self.assertEqual(kind_of(told, list(word)), kind)
            for other, more in enumerate(words):
                self.assertEqual(rows[kind][other], kind_of(told, list(word + more)))
            for i, a in enumerate(sheet[0]):
                for j, c in enumerate(sheet[2]):
                    self.assertEqual(wraps[i][j][kind], kind_of(told, [a, *word, c]))
        for at, b in enumerate(sheet[1]):
            self.assertEqual(plains[at], kind_of(told, [b]))
        self.assertEqual(len(parted_pairs(told)), len(words) * (len(words) - 1))

    def test_words_of_one_kind_stand_for_one_another(self):
        for machine, most, around in ((EVEN, 4, 5), (DEEP, 6, 8), (NAMED, 3, 3)):
            told = telling(machine, 60)
            signs = {}
            for word in shut_words(machine[0], most):
                sign = [plain_lets(machine, left + word + right) for left, right in contexts(machine[0], around)]
                self.assertEqual(signs.setdefault(kind_of(told, word), sign), sign)
            self.assertEqual(len({tuple(sign) for sign in signs.values()}), len(signs))

    def test_held_against_all_short_words(self):
        seen = 0
        for sheet, most in ((ONE, 6), (BARE, 8), (TWO, 3)):
            for seed in range(25):
                machine = some_machine(seed, sheet, rooms=2, marks=1 + seed % 2, share=2 + seed % 3)
                try:
                    told = kept(self, telling, machine, 60)
                except TooMany:
                    continue
                self.looked(machine, told, most)
                seen += len(told[1]) > 1
        self.assertGreater(seen, 30)

    def test_two_machines_that_are_alike_have_one_telling(self):
        for seed in range(20):
            sheet = (ONE, BARE)[seed % 2]
            machine = some_machine(seed, sheet, rooms=2, marks=1, share=3)
            told = telling(machine, 60)
            same = one_way(machine, 60)[0]
            for other in (same, joined(machine, machine), turned(turned(same))):
                try:
                    self.assertEqual(telling(other, 60), told)
                except TooMany:
                    pass
            self.assertEqual(telling(same, 60), told)

    def test_others_have_not(self):
        machines = [some_machine(seed, BARE, rooms=2, marks=1, share=2) for seed in range(14)]
        for one in machines:
            for other in machines:
                same = telling(one, 60) == telling(other, 60)
                self.assertEqual(same, alike(one, other, 60)[0] == "alike")

    def test_kinds_that_no_stretch_parts_are_one(self):
        # Two rooms that are told apart by nothing: two stretches, one kind.
        moves = (("plain", 0, "b", 1), ("plain", 1, "b", 0))
        machine = (ONE, 2, 0, (0,), (0, 1), moves)
        self.assertEqual(telling(machine)[1], ((), ("a", "c")))
        # Also words of unlike stretches of which one is let by from other rooms than the first.
        machine = (ONE, 3, 0, (0,), (0,), moves[:1] + (("plain", 2, "b", 2),))
        self.assertEqual(telling(machine)[1], ((), ("b",)))

    def test_a_limit_of_just_as_many_stretches_and_one_less(self):
        for seed in range(30):
            sheet, most = ((ONE, 8), (BARE, 10))[seed % 2]
            machine = some_machine(seed, sheet, rooms=2, marks=1, share=2 + seed % 2)
            many = len({plain_stretch(machine, word) for word in shut_words(sheet, most)})
            told = kept(self, telling, machine, many)
            self.assertEqual(telling(machine, limit=many), told)
            if many > 1:
                refused(self, TooMany, telling, machine, many - 1)
                refused(self, TooMany, telling, machine, limit=many - 1)

    def test_without_a_limit_it_is_16(self):
        self.assertEqual(len(telling(machine_of_plains(ONE, [14], None))[1]), 16)
        refused(self, TooMany, telling, machine_of_plains(ONE, [15], None))
        self.assertEqual(len(telling(machine_of_plains(ONE, [58], None), 60)[1]), 60)
        refused(self, TooMany, telling, machine_of_plains(ONE, [59], None), 60)

    def test_stretches_of_rooms_that_are_never_come_to_count(self):
        machine = (ONE, 3, 0, (0,), (), (("plain", 1, "b", 2),))
        refused(self, TooMany, telling, machine, 2)
        self.assertEqual(len(telling(machine, 3)[1]), 1)

    def test_most(self):
        machine = machine_of_plains(ONE, [5], None)
        told = telling(machine, 60, 5)
        self.assertEqual(telling(machine, most=5, limit=60), told)
        self.assertEqual(sorted(len(word) for word in told[1]), [0, 1, 2, 2, 3, 4, 5])
        for most in range(1, 5):
            self.assertEqual(refused(self, TooLong, telling, machine, 60, most).size, 5)
        # Stretches with greater least words are of a kind that has lesser ones.
        moves = (("plain", 0, "b", 1), ("plain", 1, "b", 2), ("plain", 2, "b", 3), ("plain", 3, "b", 3))
        self.assertEqual(telling((ONE, 4, 0, (0,), (0,), moves), 60, 1)[1], ((), ("b",)))

    def test_without_a_most_it_is_400(self):
        told = telling(machine_of_400(0), 60)
        self.assertEqual(max(len(word) for word in told[1]), 400)
        self.assertEqual([len(told[1][kind]) for kind in told[2]], [400])
        self.assertTrue(plain_lets(machine_of_400(0), told[1][told[2][0]]))
        self.assertEqual(refused(self, TooLong, telling, machine_of_400(1), 60).size, 401)

    def test_too_many_goes_ahead_of_too_long(self):
        machine = machine_of_plains(ONE, [5], None)
        refused(self, TooMany, telling, machine, 6, 1)
        self.assertEqual(refused(self, TooLong, telling, machine, 7, 1).size, 5)

    def test_400_letters(self):
        for size in (19, 20):
            ring = tuple(("plain", p, "b", (p + 1) % size) for p in range(size))
            told = telling((ONE, size, 0, (0,), (0,), tuple(sorted(ring))), 60)
            self.assertEqual(len(told[1]), size + 1)
            word = ["b"] * 400
            self.assertEqual(told[1][kind_of(told, word)], ("b",) * (400 % size))
        refused(self, TooMany, telling, WINDING, 60)

    def test_what_is_handed_in_stays(self):
        machine = (ONE, 2, 0, (0,), (0,), EVEN[5])
        told = telling(machine)
        before = copy.deepcopy(told)
        word = ["b", "a", "c"]
        kind_of(told, word)
        machine_by(told)
        is_telling(told)
        self.assertEqual(told, before)
        self.assertEqual(word, ["b", "a", "c"])
        self.assertEqual(telling(machine), before)


class KindOf(unittest.TestCase):
    def test_ordinary(self):
        for word, kind in (([], 0), (["b"], 1), (["b", "b"], 0), (["a", "c"], 2), (["b", "a", "c", "b"], 2)):
            self.assertEqual(kind_of(EVEN_TOLD, word), kind)
        self.assertEqual(kind_of(NAMED_TOLD, ["z", "up", "m", "down", "y"]), 0)
        self.assertEqual(kind_of(NAMED_TOLD, ["z", "up", "m", "y", "down"]), 1)

    def test_refusals_in_their_order(self):
        self.assertEqual(refused(self, NoLetter, kind_of, EVEN_TOLD, ["c", "b", "x", "y"]).place, 2)
        self.assertEqual(refused(self, NotShut, kind_of, EVEN_TOLD, ["a", "b", "c", "c", "a"]).place, 3)
        self.assertEqual(refused(self, NotShut, kind_of, EVEN_TOLD, ["b", "a", "a", "c"]).place, 1)

    def test_each_tellings_own_words(self):
        for told in small_tellings():
            for kind, word in enumerate(told[1]):
                self.assertEqual(kind_of(told, list(word)), kind)

    def test_long_and_deep_words(self):
        self.assertEqual(kind_of(EVEN_TOLD, ["b"] * 399), 1)
        self.assertEqual(kind_of(EVEN_TOLD, ["b"] * 400), 0)
        deep = ["z", "up"] * 100 + ["down", "y"] * 100
        self.assertEqual(kind_of(NAMED_TOLD, deep), 0)
        self.assertEqual(kind_of(NAMED_TOLD, ["z"] * 200 + ["y"] * 199 + ["down"]), 1)
        told = telling(some_machine(8, TWO, rooms=2, marks=1, share=2), 60)
        for seed in range(5):
            word = long_word(seed, TWO, 400)
            self.assertEqual(kept(self, kind_of, told, word), plain_kind_of(told, word))

    def test_200_opens_by_how_deep(self):
        # Whether the depth is even where nothing stands beside anything.
        moves = (
            ("close", 0, 0, "c", 1),
            ("close", 1, 1, "c", 0),
            ("open", 0, "a", 0, 0),
            ("open", 0, "a", 1, 0),
        )
        machine = (BARE, 2, 2, (0,), (0,), moves)
        told = telling(machine, 60)
        for many in (198, 199, 200):
            self.assertEqual(kind_of(told, ["a"] * many + ["c"] * many) in told[2], many % 2 == 0)


class MachineBy(unittest.TestCase):
    def test_by_hand(self):
        sheet, rooms, marks, firsts, lasts, moves = kept(self, machine_by, EVEN_TOLD)
        self.assertEqual((sheet, rooms, marks, firsts, lasts), (ONE, 3, 3, (0,), (0,)))
        want = [("open", k, "a", k, 0) for k in range(3)]
        want += [("plain", 0, "b", 1), ("plain", 1, "b", 0), ("plain", 2, "b", 2)]
        want += [("close", k, m, "c", 2) for k in range(3) for m in range(3)]
        self.assertEqual(moves, tuple(sorted(want)))

    def test_marks_by_kinds_and_opens(self):
        machine = machine_by(NAMED_TOLD)
        self.assertEqual(machine[1:5], (2, 4, (0,), (0,)))
        laid = {(move[1], move[2]): move[3:] for move in machine[5] if move[0] == "open"}
        self.assertEqual(laid, {(0, "z"): (0, 0), (0, "up"): (1, 0), (1, "z"): (2, 0), (1, "up"): (3, 0)})

    def test_all_that_point_20_says(self):
        for told in small_tellings() + [telling(DEEP)]:
            sheet, words, lets = told[:3]
            machine = kept(self, machine_by, told)
            self.assertTrue(is_shaped(machine))
            self.assertIs(is_one_way(machine), True)
            self.assertEqual(machine[:5], (sheet, len(words), len(words) * len(sheet[0]), (0,), lets))
            self.assertEqual(telling(machine, 60), told)
            for letters in all_words(sheet, 4 if sheet != TWO else 3):
                if opens_left(sheet, letters) is None:
                    continue
                ((room, pile),) = configs(machine, letters)
                self.assertEqual(room, kind_of(told, behind_last_open(sheet, letters)))

    def test_it_lets_by_the_same_words(self):
        for seed in range(20):
            sheet, most = ((ONE, 6), (BARE, 8), (TWO, 3))[seed % 3]
            machine = some_machine(seed, sheet, rooms=2, marks=1, share=2 + seed % 2)
            made = machine_by(telling(machine, 60))
            for word in shut_words(sheet, most):
                self.assertEqual(plain_lets(made, word), plain_lets(machine, word))

    def test_machines_by_tellings_are_put_together_again(self):
        one = machine_by(EVEN_TOLD)
        other = telling(in_row(one, wrapped(one, "a", "c")), 60)
        self.assertEqual(kind_of(other, ["b", "b", "a", "b", "b", "c"]) in other[2], True)
        self.assertEqual(telling(again(one), 60), EVEN_TOLD)


class IsTelling(unittest.TestCase):
    def told(self, thing, good):
        self.assertIs(kept(self, is_telling, thing), good)

    def test_what_is_told(self):
        found = small_tellings()
        self.assertGreater(len(found), 15)
        for thing in found + [EVEN_TOLD, NAMED_TOLD]:
            self.assertTrue(plain_is_telling(thing))
            self.told(thing, True)

    def test_each_number_put_otherwise(self):
        for thing in small_tellings():
            many = len(thing[1])
            for changed in changed_numbers(thing, many):
                self.told(changed, plain_is_telling(changed))

    def test_some_that_are_wrong_by_one_thing(self):
        sheet, words, lets, plains, rows, wraps = EVEN_TOLD
        self.told((sheet, ((), ("b",), ("b", "a", "c")), lets, plains, rows, wraps), False)
        self.told((sheet, ((), ("b", "b", "b"), ("a", "c")), lets, plains, rows, wraps), False)
        self.told((sheet, (("b", "b"), ("b",), ("a", "c")), lets, plains, rows, wraps), False)
        self.told((sheet, ((), ("a", "c"), ("b",)), lets, plains, rows, wraps), False)
        self.told((sheet, ((), ("b",), ("b",)), lets, plains, rows, wraps), False)
        self.told((sheet, ((), ("b",), ("c",)), lets, plains, rows, wraps), False)
        self.told((sheet, ((), ("b",), ("x",)), lets, plains, rows, wraps), False)
        self.told((sheet, words, (0, 1), plains, rows, wraps), False)
        self.told((sheet, words, (), plains, rows, wraps), False)
        self.told((sheet, words, (0, 1, 2), plains, rows, wraps), False)
        self.told((sheet, words, (1,), plains, rows, wraps), True)
        self.told((sheet, words, (0, 2), plains, rows, wraps), True)
        for wrong in ((2, 0), (0, 0), (0, 3), (0, -1)):
            self.told((sheet, words, wrong, plains, rows, wraps), False)
        self.told((sheet, words, lets, (2,), rows, wraps), False)
        self.told((sheet, words, lets, plains, (rows[1], rows[0], rows[2]), wraps), False)
        self.told((sheet, words, lets, plains, rows, (((0, 2, 2),),)), False)
        self.told((sheet, words, lets, plains, rows, (((2, 2, 0),),)), True)

    def test_the_kinds_in_another_order(self):
        sheet, words, lets, plains, rows, wraps = EVEN_TOLD
        swap = (0, 2, 1)
        moved = (
            sheet,
            tuple(words[swap[k]] for k in range(3)),
            tuple(sorted(swap[k] for k in lets)),
            tuple(swap[k] for k in plains),
            tuple(tuple(swap[rows[swap[k]][swap[l]]] for l in range(3)) for k in range(3)),
            tuple(tuple(tuple(swap[row[swap[k]]] for k in range(3)) for row in by) for by in wraps),
        )
        self.assertEqual(kind_of(moved, ["a", "c"]), 1)
        self.told(moved, False)

    def test_kinds_that_no_context_parts(self):
        # Even and odd are told apart, but nothing hangs on it.
        sheet, words, lets, plains, rows, wraps = EVEN_TOLD
        for wrong in ((0, 1), (2,), ()):
            self.told((sheet, words, wrong, plains, rows, wraps), False)

    def test_kinds_that_no_word_has(self):
        rows = ((0, 1), (1, 1))
        self.told((ONE, ((), ("b",)), (0,), (1,), rows, (((1, 1),),)), True)
        self.told((ONE, ((), ("b",)), (0,), (0,), rows, (((0, 1),),)), False)
        self.told((BARE, ((), ("a", "c")), (0,), (), rows, (((0, 0),),)), False)

    def test_rows_that_dont_go_by_words(self):
        # Put together one way about, b b b would be of another kind than the other way about.
        rows = ((0, 1, 2), (1, 2, 0), (2, 1, 0))
        words = ((), ("b",), ("b", "b"))
        wraps = (((0, 0, 0),),)
        self.assertFalse(plain_is_telling((ONE, words, (0,), (1,), rows, wraps)))
        self.told((ONE, words, (0,), (1,), rows, wraps), False)
        self.told((ONE, words, (0,), (1,), ((0, 1, 2), (1, 2, 0), (2, 0, 1)), wraps), True)

    def test_other_kinds_of_things_in_its_places(self):
        for thing in (EVEN_TOLD, NAMED_TOLD):
            for changed in changed_kinds(thing):
                self.told(changed, False)
            self.told(list(thing), False)
            self.told(thing + (0,), False)
            self.told(thing[:5], False)
            for at in range(6):
                for other in ((), [], None, 0, "", "b", True, thing, list(thing[at]), thing[at] + (0,), thing[at][1:]):
                    if other == thing[at] and type(other) is tuple:
                        continue
                    self.told(thing[:at] + (other,) + thing[at + 1 :], at == 2 and other == () and len(thing[1]) == 1)

    def test_sheets(self):
        for sheet in (TWO, BARE, (("a",), ("b",), ("a",)), (("a",), ("b", "d"), ("c",)), (("A",), ("b",), ("c",))):
            self.told((sheet,) + EVEN_TOLD[1:], False)
        renamed = (("x",), ("y",), ("z",))
        self.told((renamed, ((), ("y",), ("x", "z"))) + EVEN_TOLD[2:], True)

    def test_no_kinds(self):
        self.told((BARE, (), (), (), (), (((),),)), False)
        self.told((ONE, (), (), (), (), (((),),)), False)

    def test_eight_and_nine_kinds(self):
        for most, many, good in ((5, 7, True), (6, 8, True), (7, 9, False), (14, 16, False)):
            told = telling(machine_of_plains(ONE, [most], None), 60)
            self.assertEqual(len(told[1]), many)
            self.told(told, good)

    def test_words_of_more_than_400_letters(self):
        long = ("a",) * 201 + ("c",) * 201
        self.told((BARE, ((), long), (0,), (), ((0, 1), (1, 1)), (((1, 1),),)), False)

    def test_kinds_whose_least_words_are_long(self):
        rows = [[2] * 8 for k in range(8)]
        for k in range(8):
            rows[0][k] = rows[k][0] = k
        for k, l, made in ((3, 3, 1), (4, 4, 5), (4, 6, 5), (6, 3, 1), (6, 4, 1), (6, 6, 7)):
            rows[k][l] = made
        rows = tuple(tuple(row) for row in rows)
        wraps = (((1, 2, 3, 4, 0, 6, 3, 1),),)
        words = least_words((BARE, (), (3,), (), rows, wraps))
        thing = (BARE, tuple(tuple(words[k]) for k in range(8)), (3,), (), rows, wraps)
        self.assertEqual(max(len(word) for word in thing[1]), 36)
        self.assertTrue(plain_is_telling(thing))
        self.told(thing, True)
        self.assertEqual(telling(machine_by(thing), 8, 36), thing)
        self.assertEqual(refused(self, TooLong, telling, machine_by(thing), 8, 35).size, 36)

    def test_things_of_other_kinds(self):
        deep = ()
        for _ in range(23):
            deep = (deep,)
        lists = []
        for _ in range(23):
            lists = [lists]
        for thing in (None, True, 0, 1, "", "telling", (), [], (EVEN_TOLD,), [EVEN_TOLD], deep, lists, (0,) * 3000):
            self.told(thing, False)
        for part in (deep, lists, (deep,), (lists,), ([], []), ((), [])):
            self.told((part,) * 6, False)
            for at in range(6):
                self.told(EVEN_TOLD[:at] + (part,) + EVEN_TOLD[at + 1 :], False)
        self.told(((["a"],), ("b",), ("c",)) + EVEN_TOLD[1:], False)
        self.told((ONE, ((), (["b"],), ("a", "c"))) + EVEN_TOLD[2:], False)
        self.told((ONE, ((), ((),), ("a", "c"))) + EVEN_TOLD[2:], False)
        self.told((ONE, ((),) * 2900) + EVEN_TOLD[2:], False)


def replaced(thing, path, new):
    if not path:
        return new
    inner = replaced(thing[path[0]], path[1:], new)
    return thing[: path[0]] + (inner,) + thing[path[0] + 1 :]


def paths_of(thing, path=()):
    yield path
    if type(thing) is tuple:
        for at, part in enumerate(thing):
            yield from paths_of(part, path + (at,))


def at_path(thing, path):
    for at in path:
        thing = thing[at]
    return thing


def changed_numbers(thing, many):
    for path in list(paths_of(thing)):
        old = at_path(thing, path)
        if type(old) is int:
            for new in range(-1, many + 1):
                if new != old:
                    yield replaced(thing, path, new)


def changed_kinds(thing):
    """The thing with one part of another kind, or with one part more or less."""
    for path in list(paths_of(thing)):
        old = at_path(thing, path)
        if type(old) is int:
            news = [str(old), None, (old,), [old]] + ([bool(old)] if old in (0, 1) else [])
        elif type(old) is str:
            news = [(old,), [old], None, 0, old.upper(), old + " ", ""]
        elif path[:1] == (2,):
            news = [list(old), None]
        else:
            news = [list(old), None, old + (0,), old + ("b",), old + ((),)] + ([old[:-1]] if old else [])
        for new in news:
            yield replaced(thing, path, new)


if __name__ == "__main__":
    unittest.main()
