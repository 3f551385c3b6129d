import unittest

from echohall.counts import how_many
from echohall.errors import NoLetter, NoOneWay, NotShut
from echohall.numbers import number_of, word_of
from echohall.oneway import one_way
from echohall.put import met, turned
from echohall.signs import is_less
from echohall.tellings import machine_by, telling
from echohall.walks import lets
from tests.helps import (
    BARE,
    ONE,
    TWO,
    WINDING,
    all_moves,
    how_many_shut,
    in_order,
    kept,
    long_word,
    machine_of_plains,
    one_way_machines,
    plain_lets,
    refused,
    shut_words,
)

EVERY = {sheet: (sheet, 1, 1, (0,), (0,), tuple(all_moves(sheet, 1, 1))) for sheet in (ONE, BARE, TWO)}
EVEN = (ONE, 2, 0, (0,), (0,), (("plain", 0, "b", 1), ("plain", 1, "b", 0)))
FOUR = tuple(tuple(sign * many for many in range(1, 5)) for sign in "abc")
EVERY_FOUR = (FOUR, 1, 1, (0,), (0,), tuple(all_moves(FOUR, 1, 1)))


class WordsByNumber(unittest.TestCase):
    def test_by_hand(self):
        # The order of the sheet: open, plain, close.
        told = [kept(self, word_of, EVERY[ONE], 3, k) for k in range(5)]
        want = [["a", "b", "c"], ["a", "c", "b"], ["b", "a", "c"], ["b", "b", "b"], None]
        self.assertEqual(told, want)
        self.assertEqual([type(word) for word in told[:4]], [list] * 4)
        self.assertEqual([number_of(EVERY[ONE], word) for word in want[:4]], [0, 1, 2, 3])

    def test_the_order_of_the_sheet_and_not_of_the_alphabet(self):
        told = [word_of(EVERY[TWO], 2, k) for k in range(9)]
        want = [["z", "y"], ["z", "down"], ["up", "y"], ["up", "down"]]
        want += [["m", "m"], ["m", "dot"], ["dot", "m"], ["dot", "dot"], None]
        self.assertEqual(told, want)
        self.assertEqual([number_of(EVERY[TWO], word) for word in want[:8]], list(range(8)))

    def test_held_against_all_short_words(self):
        for machine in one_way_machines():
            most = {ONE: 7, BARE: 10, TWO: 4}[machine[0]]
            words = in_order(machine[0], shut_words(machine[0], most))
            for n in range(most + 1):
                good = [word for word in words if len(word) == n and plain_lets(machine, word)]
                told = [kept(self, word_of, machine, n, k) for k in range(len(good) + 2)]
                self.assertEqual(told, good + [None, None])

    def test_20_letters(self):
        for machine in list(EVERY.values()) + [EVERY_FOUR] + one_way_machines()[:12]:
            many = how_many(machine, 20)
            self.assertIsNone(word_of(machine, 20, many))
            self.assertIsNone(word_of(machine, 20, many + 1))
            found = []
            for k in sorted({k for k in (0, 1, many // 3, many // 2, many - 2, many - 1) if 0 <= k < many}):
                word = word_of(machine, 20, k)
                self.assertEqual(len(word), 20)
                self.assertTrue(lets(machine, word))
                self.assertEqual(number_of(machine, word), k)
                found.append(word)
            for one, other in zip(found, found[1:]):
                self.assertTrue(is_less(machine[0], one, other))

    def test_first_and_last_of_20_letters(self):
        self.assertEqual(word_of(EVERY[ONE], 20, 0), ["a"] * 10 + ["c"] * 10)
        self.assertEqual(word_of(EVERY[ONE], 20, how_many_shut(ONE, 20) - 1), ["b"] * 20)
        self.assertEqual(word_of(EVERY[BARE], 20, how_many_shut(BARE, 20) - 1), ["a", "c"] * 10)
        self.assertIsNone(word_of(EVERY[BARE], 19, 0))
        self.assertEqual(word_of(EVERY_FOUR, 20, how_many_shut(FOUR, 20) - 1), ["bbbb"] * 20)

    def test_numbers_of_many_figures(self):
        for k in (10**29, 10**30 - 1, 10**30, 10**60, 10**400):
            for n in (0, 1, 20):
                self.assertIsNone(word_of(EVERY[ONE], n, k))
        # So many letters that there are numbers of such words with more than ten figures.
        last = how_many_shut(FOUR, 20) - 1
        self.assertGreater(last, 10**15)
        self.assertEqual(number_of(EVERY_FOUR, word_of(EVERY_FOUR, 20, last - 10**14)), last - 10**14)

    def test_no_letters(self):
        self.assertEqual([word_of(EVEN, 0, k) for k in (0, 1, 10**30)], [[], None, None])
        self.assertIsNone(word_of(EVEN[:4] + ((1,),) + EVEN[5:], 0, 0))

    def test_no_last_room_and_no_moves(self):
        for n in (0, 1, 2, 20):
            self.assertIsNone(word_of(EVERY[ONE][:4] + ((),) + EVERY[ONE][5:], n, 0))
            self.assertEqual(word_of((ONE, 1, 0, (0,), (0,), ()), n, 0), [] if n == 0 else None)
        self.assertEqual(word_of(EVEN[:3] + ((1,),) + EVEN[4:], 19, 0), ["b"] * 19)

    def test_greater_machines(self):
        # Told machines have more rooms and marks than those that are made by hand.
        one, other = [machine for machine in one_way_machines() if machine[0] == ONE][:2]
        both = one_way(met(one, turned(other)), 60)[0]
        chain = machine_by(telling(machine_of_plains(ONE, [11], None)))
        self.assertGreater(chain[1], 12)
        self.assertEqual(word_of(chain, 11, 0), ["b"] * 11)
        for n in range(8):
            good = [word for word in in_order(ONE, shut_words(ONE, 7)) if len(word) == n and plain_lets(both, word)]
            self.assertEqual([word_of(both, n, k) for k in range(len(good) + 1)], good + [None])

    def test_no_one_way(self):
        for machine in (WINDING, EVEN[:3] + ((0, 1),) + EVEN[4:], EVEN[:5] + (EVEN[5] + (("plain", 1, "b", 1),),)):
            refused(self, NoOneWay, word_of, machine, 0, 0)
            refused(self, NoOneWay, word_of, machine, 20, 10**30)

    def test_what_is_told_is_the_askers_own(self):
        word_of(EVERY[ONE], 3, 1).append("b")
        word_of(EVERY[ONE], 3, 1)[0] = "b"
        word_of(EVEN, 0, 0).append("b")
        self.assertEqual(word_of(EVERY[ONE], 3, 1), ["a", "c", "b"])
        self.assertEqual(word_of(EVEN, 0, 0), [])


class NumbersOfWords(unittest.TestCase):
    def test_held_against_all_short_words(self):
        for machine in one_way_machines():
            most = {ONE: 7, BARE: 10, TWO: 4}[machine[0]]
            words = in_order(machine[0], shut_words(machine[0], most))
            for n in range(most + 1):
                good = [word for word in words if len(word) == n and plain_lets(machine, word)]
                for word in words:
                    if len(word) == n:
                        want = good.index(word) if word in good else None
                        self.assertEqual(kept(self, number_of, machine, word), want)

    def test_words_of_20_letters(self):
        for seed in range(12):
            for machine in EVERY.values():
                word = long_word(seed, machine[0], 20)
                number = number_of(machine, word)
                self.assertEqual(word_of(machine, len(word), number), word)
        self.assertEqual(number_of(EVERY[ONE], ["a"] * 10 + ["c"] * 10), 0)
        self.assertEqual(number_of(EVERY[ONE], ["b"] * 20), how_many_shut(ONE, 20) - 1)

    def test_a_word_that_is_not_let_by(self):
        self.assertIsNone(number_of(EVEN, ["b"]))
        self.assertIsNone(number_of(EVEN, ["a", "c"]))
        self.assertIsNone(number_of(EVEN, ["b"] * 19))
        self.assertEqual(number_of(EVEN, ["b"] * 20), 0)
        self.assertIsNone(number_of(EVERY[ONE][:4] + ((),) + EVERY[ONE][5:], ["b"]))
        self.assertIsNone(number_of((ONE, 1, 0, (0,), (), ()), []))
        self.assertEqual(number_of((ONE, 1, 0, (0,), (0,), ()), []), 0)
        # The word goes through all rooms, but isn't over in a last one.
        self.assertIsNone(number_of(EVEN[:4] + ((1,),) + EVEN[5:], ["b", "b"]))

    def test_refusals_and_their_order(self):
        two_ways = EVEN[:3] + ((0, 1),) + EVEN[4:]
        for machine in (EVEN, two_ways):
            self.assertEqual(refused(self, NoLetter, number_of, machine, ["a", "x", "y"]).place, 1)
            self.assertEqual(refused(self, NoLetter, number_of, machine, ["c", "b", "z"]).place, 2)
            self.assertEqual(refused(self, NotShut, number_of, machine, ["a", "c", "c", "a"]).place, 2)
            self.assertEqual(refused(self, NotShut, number_of, machine, ["b", "a", "a", "c"]).place, 1)
        refused(self, NoOneWay, number_of, two_ways, ["b"])
        refused(self, NoOneWay, number_of, two_ways, [])


if __name__ == "__main__":
    unittest.main()
