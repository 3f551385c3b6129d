import unittest

from echohall.errors import NoLetter, NoOneWay, NoSheet, TooMany
from echohall.looks import is_walk, shows_bar
from echohall.machines import is_one_way
from echohall.oneway import one_way
from echohall.put import again, in_row, joined, met, turned, wrapped
from echohall.walks import lets, walk
from tests.helps import (
    BARE,
    ONE,
    TWO,
    all_moves,
    is_shaped,
    kept,
    long_word,
    plain_lets,
    refused,
    shut_words,
    some_machine,
)

SIZES = {ONE: 6, BARE: 8, TWO: 4}
WORDS = {sheet: [tuple(word) for word in shut_words(sheet, size)] for sheet, size in SIZES.items()}
NONE = (ONE, 1, 0, (0,), (), ())
EMPTY = (ONE, 1, 0, (0,), (0,), ())
PLAIN = (ONE, 2, 0, (0,), (1,), (("plain", 0, "b", 1),))
PAIR = (ONE, 3, 1, (0,), (2,), (("close", 1, 0, "c", 2), ("open", 0, "a", 0, 1)))
# A plain with pairs around it: its rooms are the same at any depth, so they alone do not tell where a word is shut.
DEEP = (
    ONE,
    2,
    1,
    (0,),
    (1,),
    (("close", 1, 0, "c", 1), ("open", 0, "a", 0, 0), ("plain", 0, "b", 1)),
)


def language(machine):
    """The short words that it lets by, found by piles."""
    return {word for word in WORDS[machine[0]] if plain_lets(machine, word)}


def row_of(sheet, one, other):
    return {u + v for u in one for v in other if len(u + v) <= SIZES[sheet]}


def star_of(sheet, words):
    found = {()}
    while True:
        more = found | row_of(sheet, found, words)
        if more == found:
            return found
        found = more


def some_machines():
    rows = [NONE, EMPTY, PLAIN, PAIR, DEEP]
    rows += [some_machine(seed) for seed in range(14)]
    rows += [some_machine(seed, ONE, 2, 1, 2) for seed in range(14)]
    # More marks than rooms.
    rows += [some_machine(seed, ONE, 2, 5, 4) for seed in range(4)]
    return rows


def others():
    return [some_machine(seed, BARE, 3, 2, 3) for seed in range(8)] + [
        some_machine(seed, TWO, 3, 2, 3) for seed in range(8)
    ]


class Put(unittest.TestCase):
    def told(self, made, rooms, words):
        """A machine of the right form, of no more rooms, that lets by just these of the short words."""
        self.assertTrue(is_shaped(made))
        self.assertLessEqual(made[1], rooms)
        self.assertEqual({word for word in WORDS[made[0]] if lets(made, list(word))}, words)
        self.assertEqual(language(made), words)

    def of_two(self, one, other):
        sheet, left, right = one[0], language(one), language(other)
        self.told(kept(self, joined, one, other), one[1] + other[1], left | right)
        self.told(kept(self, met, one, other), one[1] * other[1], left & right)
        self.told(kept(self, in_row, one, other), one[1] + other[1], row_of(sheet, left, right))

    def of_one(self, machine):
        sheet, words = machine[0], language(machine)
        self.told(kept(self, again, machine), 2 * machine[1] + 1, star_of(sheet, words))
        for a in sheet[0]:
            for c in sheet[2]:
                short = {(a,) + word + (c,) for word in words if len(word) + 2 <= SIZES[sheet]}
                self.told(kept(self, wrapped, machine, a, c), machine[1] + 2, short)

    def test_of_two(self):
        rows = some_machines()
        for at, one in enumerate(rows):
            for step in (1, 3):
                self.of_two(one, rows[(at + step) % len(rows)])
        for one in rows[:5]:
            for other in rows[:5]:
                self.of_two(one, other)

    def test_of_one(self):
        for machine in some_machines():
            self.of_one(machine)

    def test_of_other_sheets(self):
        rows = others()
        for one, other in zip(rows, rows[1:]):
            if one[0] == other[0]:
                self.of_two(one, other)
            self.of_one(one)

    def test_a_machine_with_itself(self):
        for machine in some_machines()[:12]:
            self.of_two(machine, machine)

    def test_marks_that_are_never_laid(self):
        # The room that lays the mark comes up in no walk, but a close would take it.
        moves = (("close", 0, 0, "c", 0), ("open", 1, "a", 0, 0), ("plain", 0, "b", 0))
        machine = (ONE, 2, 1, (0,), (0,), moves)
        self.of_two(machine, machine)
        self.of_one(machine)
        self.of_two(machine, PAIR)
        self.of_two(PAIR, machine)

    def test_in_a_row_only_where_the_one_is_shut(self):
        # The cut can't stand within a pair, even where both have the same marks.
        self.assertFalse(lets(in_row(DEEP, DEEP), ["a", "b", "b", "c"]))
        self.assertTrue(lets(in_row(DEEP, DEEP), ["a", "b", "c", "b"]))
        self.assertFalse(lets(again(DEEP), ["a", "b", "b", "c"]))
        self.assertTrue(lets(again(DEEP), ["a", "b", "c", "b", "a", "a", "b", "c", "c"]))

    def test_turned(self):
        tried = 0
        for machine in some_machines() + others():
            everything = set(WORDS[machine[0]])
            if not is_one_way(machine):
                refused(self, NoOneWay, turned, machine)
                try:
                    machine = one_way(machine, 30)[0]
                except TooMany:
                    continue
            made = kept(self, turned, machine)
            self.assertTrue(is_one_way(made))
            self.told(made, machine[1] + 1, everything - language(machine))
            twice = turned(made)
            self.assertTrue(is_one_way(twice))
            self.told(twice, made[1] + 1, language(machine))
            tried += 1
        self.assertGreater(tried, 15)

    def test_turned_without_marks_and_with_all_moves(self):
        self.told(turned(NONE), 2, set(WORDS[ONE]))
        self.told(turned(EMPTY), 2, set(WORDS[ONE]) - {()})
        full = (ONE, 1, 1, (0,), (0,), tuple(all_moves(ONE, 1, 1)))
        self.told(turned(full), 2, set())
        self.told(turned(turned(full)), 3, set(WORDS[ONE]))

    def test_put_together_again(self):
        left, right = some_machine(2), some_machine(5, ONE, 2, 1, 2)
        words, more = language(left), language(right)
        both = joined(left, right)
        self.of_one(both)
        self.of_two(both, met(left, right))
        self.of_two(in_row(left, right), wrapped(right, "a", "c"))
        self.of_one(again(right))
        pairs = star_of(ONE, {("a", "c")})
        self.told(in_row(wrapped(PLAIN, "a", "c"), again(PAIR)), 11, row_of(ONE, {("a", "b", "c")}, pairs))
        alone = met(both, turned(one_way(met(left, right), 60)[0]))
        self.told(alone, alone[1], (words | more) - (words & more))

    def test_handed_to_walk_and_one_way(self):
        parts = [joined(PAIR, DEEP), met(DEEP, DEEP), in_row(DEEP, PAIR), again(DEEP), wrapped(DEEP, "a", "c")]
        parts.append(turned(DEEP))
        for machine in parts:
            words = language(machine)
            made, holds = one_way(machine, 60)
            self.told(made, 60, words)
            for word in list(WORDS[ONE]) + [tuple(long_word(1, ONE, 400)), ("a",) * 200 + ("c",) * 200]:
                kind, paper = walk(machine, list(word))
                look = is_walk if kind == "walk" else shows_bar
                self.assertIs(look(machine, list(word), paper), True)

    def test_long_words(self):
        many = again(joined(PLAIN, PAIR))
        self.assertTrue(lets(many, ["b", "a", "c", "b"] * 100))
        self.assertFalse(lets(many, ["b", "a", "c", "b"] * 99 + ["a", "b", "c", "b"]))
        deep = ["a"] * 199 + ["b"] + ["c"] * 199
        self.assertTrue(lets(in_row(DEEP, PLAIN), deep + ["b"]))
        self.assertFalse(lets(turned(DEEP), deep))
        self.assertTrue(lets(turned(DEEP), deep + ["b"]))

    def test_no_sheet(self):
        for function in (joined, met, in_row):
            for sheet in (TWO, BARE, (("a",), ("c",), ("b",)), (("a",), ("b", "d"), ("c",))):
                other = (sheet, 1, 0, (0,), (), ())
                refused(self, NoSheet, function, PLAIN, other)
                refused(self, NoSheet, function, other, PLAIN)

    def test_a_sheet_that_is_equal_is_the_same(self):
        copied = (tuple(tuple(part) for part in [list(part) for part in ONE]),) + PAIR[1:]
        self.of_two(copied, PLAIN)

    def test_no_letter(self):
        for wrong in ("b", "c", "d", "", "A", "aa"):
            self.assertEqual(refused(self, NoLetter, wrapped, PLAIN, wrong, "c").place, 0)
            self.assertEqual(refused(self, NoLetter, wrapped, PLAIN, wrong, wrong + "x").place, 0)
        for wrong in ("a", "b", "d", "", "C", "cc"):
            self.assertEqual(refused(self, NoLetter, wrapped, PLAIN, "a", wrong).place, 1)

    def test_no_one_way(self):
        refused(self, NoOneWay, turned, PAIR[:3] + ((0, 1),) + PAIR[4:])
        refused(self, NoOneWay, turned, PAIR[:5] + (PAIR[5][:1] + (("open", 0, "a", 0, 1), ("open", 0, "a", 0, 2)),))
        refused(self, NoOneWay, turned, PLAIN[:5] + ((("plain", 0, "b", 0), ("plain", 0, "b", 1)),))

    def test_told_each_time_alike(self):
        one, other = some_machine(1), some_machine(2)
        for function in (joined, met, in_row):
            self.assertEqual(function(one, other), function(one, other))
        self.assertEqual(again(one), again(one))


if __name__ == "__main__":
    unittest.main()
