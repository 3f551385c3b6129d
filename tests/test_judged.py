import unittest

from echohall.errors import TooMany
from echohall.great import is_great
from echohall.judged import kind_by, lets_great
from echohall.tellings import kind_of, machine_by, telling
from echohall.walks import lets
from tests.helps import (
    BARE,
    EVEN_TOLD,
    NAMED_TOLD,
    ONE,
    TWO,
    WINDING,
    all_moves,
    kept,
    machine_of_plains,
    plain_stretch,
    plain_written,
    refused,
    shut_words,
    some_great,
    some_machine,
)

B = ("word", ("b",))
NONE = ("word", ())
HUGE = 10**60
EVEN = (ONE, 2, 0, (0,), (0,), (("plain", 0, "b", 1), ("plain", 1, "b", 0)))
# The least number that all numbers from 1 to 8 go into.
ROUND = 840


def some_tellings():
    found = []
    for seed in range(45):
        sheet = (ONE, BARE, TWO)[seed % 3]
        machine = some_machine(seed, sheet, rooms=2, marks=1 + seed % 2, share=2 + seed % 3)
        try:
            found.append((machine, telling(machine, 60)))
        except TooMany:
            continue
    return found


def with_counts(great, change):
    """The great word with each count changed."""
    if great[0] == "word":
        return great
    if great[0] == "row":
        return ("row", tuple(with_counts(part, change) for part in great[1]))
    if great[0] == "again":
        return ("again", change(great[1]), with_counts(great[2], change))
    return ("wrap", change(great[1]), great[2], with_counts(great[3], change), great[4])


class KindBy(unittest.TestCase):
    def test_by_hand(self):
        for n in (0, 1, 2, 3, HUGE - 1, HUGE):
            self.assertEqual(kind_by(EVEN_TOLD, ("again", n, B)), n % 2)
            self.assertEqual(kind_by(EVEN_TOLD, ("wrap", n, "a", B, "c")), 2 if n else 1)
            self.assertEqual(kind_by(NAMED_TOLD, ("wrap", n, "z", NONE, "y")), 0)
            self.assertEqual(kind_by(NAMED_TOLD, ("wrap", n, "up", NONE, "y")), 1 if n else 0)
        self.assertEqual(kind_by(EVEN_TOLD, ("row", ())), 0)
        self.assertEqual(kind_by(EVEN_TOLD, ("row", (B, ("again", HUGE, B), B, B))), 1)

    def test_held_against_the_written_word(self):
        for machine, told in some_tellings():
            for seed in range(25):
                great = some_great(seed, told[0], deep=3)
                self.assertEqual(kept(self, kind_by, told, great), kind_of(told, plain_written(great)))

    def test_great_counts_held_against_small_ones_that_go_round(self):
        seen = 0
        for machine, told in some_tellings():
            if len(told[1]) > 8:
                continue
            for seed in range(25):
                great = some_great(seed, told[0], deep=4, most=12)
                # Behind as many steps as there are kinds a count goes round, by at most as many steps.
                huge = with_counts(great, lambda n: n if n < 8 else n + HUGE // ROUND * ROUND - ROUND)
                small = with_counts(great, lambda n: n if n < 8 else n + ROUND)
                self.assertTrue(is_great(told[0], huge))
                kind = kept(self, kind_by, told, huge)
                self.assertEqual(kind, kind_by(told, small))
                self.assertEqual(kind, kind_by(told, great) if huge == great else kind)
                seen += huge != great
        self.assertGreater(seen, 100)

    def test_small_counts_by_steps(self):
        for machine, told in some_tellings():
            for kind, word in enumerate(told[1]):
                if len(word) > 60:
                    continue
                made, around = 0, kind
                a, c = told[0][0][-1], told[0][2][-1]
                for n in range(20):
                    self.assertEqual(kind_by(told, ("again", n, ("word", word))), made)
                    self.assertEqual(kind_by(told, ("wrap", n, a, ("word", word), c)), around)
                    made = told[4][made][kind]
                    around = told[5][-1][-1][around]

    def test_depth_goes_round(self):
        # Pairs within one another by threes, nothing beside them.
        moves = []
        for k in range(3):
            moves += [("close", k, k, "c", (k + 1) % 3), ("open", 0, "a", k, 0)]
        told = telling((BARE, 3, 3, (0,), (0,), tuple(sorted(moves))), 60)
        for n in (0, 1, 2, 3, 60, 61, HUGE - 1, HUGE, 3 * (HUGE // 3)):
            kind = kind_by(told, ("wrap", n, "a", NONE, "c"))
            self.assertEqual(kind in told[2], n % 3 == 0)

    def test_counts_within_counts(self):
        great = B
        for _ in range(9):
            great = ("again", HUGE - 1, great)
        self.assertEqual(kind_by(EVEN_TOLD, great), 1)
        self.assertEqual(kind_by(EVEN_TOLD, ("again", 2, great)), 0)


class LetsGreat(unittest.TestCase):
    def test_by_hand(self):
        for n in (0, 1, 2, 3, HUGE - 1, HUGE):
            self.assertIs(kept(self, lets_great, EVEN, ("again", n, B)), n % 2 == 0)
            self.assertIs(lets_great(EVEN, ("wrap", n, "a", NONE, "c")), n == 0)
        self.assertIs(lets_great((ONE, 1, 0, (0,), (), ()), ("again", HUGE, B)), False)
        every = (ONE, 1, 1, (0,), (0,), tuple(all_moves(ONE, 1, 1)))
        self.assertIs(lets_great(every, ("wrap", HUGE, "a", ("again", HUGE, B), "c"), 1), True)

    def test_held_against_the_written_word(self):
        for machine, told in some_tellings():
            for seed in range(15):
                great = some_great(seed, machine[0], deep=3)
                self.assertIs(kept(self, lets_great, machine, great, 60), lets(machine, plain_written(great)))

    def test_held_against_the_telling(self):
        for machine, told in some_tellings():
            for seed in range(15):
                great = with_counts(some_great(seed, machine[0], deep=3), lambda n: HUGE - n)
                self.assertIs(lets_great(machine, great, 60), kind_by(told, great) in told[2])
                self.assertIs(lets_great(machine_by(told), great, 60), kind_by(told, great) in told[2])

    def test_a_limit_of_just_as_many_stretches_and_one_less(self):
        for seed in range(20):
            sheet, most = ((ONE, 8), (BARE, 10))[seed % 2]
            machine = some_machine(seed, sheet, rooms=2, marks=1, share=2 + seed % 2)
            many = len({plain_stretch(machine, word) for word in shut_words(sheet, most)})
            self.assertIs(lets_great(machine, NONE, many), lets(machine, []))
            self.assertIs(lets_great(machine, NONE, limit=many), lets(machine, []))
            if many > 1:
                refused(self, TooMany, lets_great, machine, NONE, many - 1)
                refused(self, TooMany, lets_great, machine, NONE, limit=many - 1)

    def test_without_a_limit_it_is_16(self):
        self.assertIs(lets_great(machine_of_plains(ONE, [14], None), ("again", 14, B)), True)
        refused(self, TooMany, lets_great, machine_of_plains(ONE, [15], None), ("again", 15, B))
        self.assertIs(lets_great(machine_of_plains(ONE, [58], None), ("again", 58, B), 60), True)
        self.assertIs(lets_great(machine_of_plains(ONE, [58], None), ("again", HUGE, B), 60), False)
        refused(self, TooMany, lets_great, WINDING, NONE, 60)


if __name__ == "__main__":
    unittest.main()
