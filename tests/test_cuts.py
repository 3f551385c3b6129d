import itertools
import unittest

from echohall.cuts import are_cuts, cut_of, cuts_of
from echohall.errors import NoLetter, NoSheet, NotShut
from echohall.nests import is_shut
from echohall.put import again, in_row
from echohall.walks import lets
from tests.helps import (
    BARE,
    ONE,
    TWO,
    kept,
    long_word,
    machine_of_plains,
    plain_lets,
    refused,
    shut_words,
    some_machine,
)

ANY = machine_of_plains(ONE, [], 0)
SOME = machine_of_plains(ONE, [], 1)
NONE = machine_of_plains(ONE, [0], None)
PAIR = (ONE, 3, 1, (0,), (2,), (("close", 1, 0, "c", 2), ("open", 0, "a", 0, 1), ("plain", 1, "b", 1)))
NEVER = (ONE, 1, 0, (0,), (), ())


def lets_between(machine, word, begin, end):
    part = word[begin:end]
    return is_shut(machine[0], part) and plain_lets(machine, part)


def plain_cut(one, other, word):
    for place in range(len(word) + 1):
        if lets_between(one, word, 0, place) and lets_between(other, word, place, len(word)):
            return place
    return None


def plain_are_cuts(machine, word, places):
    if not word:
        return places == [0]
    if places[:1] != [0] or places[-1:] != [len(word)] or places != sorted(set(places)):
        return False
    return all(lets_between(machine, word, *both) for both in zip(places, places[1:]))


class CutOf(unittest.TestCase):
    def test_the_least_of_several_places(self):
        word = ["b"] * 5
        self.assertEqual(cut_of(ANY, ANY, word), 0)
        self.assertEqual(cut_of(SOME, ANY, word), 1)
        self.assertEqual(cut_of(SOME, machine_of_plains(ONE, [1, 3], None), word), 2)
        self.assertEqual(cut_of(machine_of_plains(ONE, [2, 4], None), ANY, word), 2)

    def test_the_place_0_and_the_last(self):
        word = ["b"] * 3
        self.assertEqual(cut_of(NONE, SOME, word), 0)
        self.assertEqual(cut_of(SOME, NONE, word), 3)
        self.assertEqual(cut_of(PAIR, NONE, ["a", "c"]), 2)
        self.assertEqual(cut_of(NONE, PAIR, ["a", "c"]), 0)

    def test_none_where_there_is_none(self):
        self.assertIsNone(cut_of(NEVER, ANY, ["b"]))
        self.assertIsNone(cut_of(ANY, NEVER, ["b"]))
        self.assertIsNone(cut_of(machine_of_plains(ONE, [1], None), machine_of_plains(ONE, [1], None), ["b"] * 3))

    def test_places_within_an_open_and_its_close_are_none(self):
        # By its rooms alone a machine could be left within a pair, and the other one go on there.
        begin = (ONE, 2, 1, (0,), (1,), (("open", 0, "a", 0, 1), ("plain", 1, "b", 1)))
        end = (ONE, 2, 1, (0,), (1,), (("close", 0, 0, "c", 1), ("plain", 0, "b", 0)))
        self.assertIsNone(cut_of(begin, end, ["a", "c"]))
        self.assertIsNone(cut_of(begin, end, ["a", "b", "c"]))
        self.assertEqual(cut_of(ANY, PAIR, ["b", "a", "b", "b", "c"]), 1)

    def test_no_letters(self):
        self.assertEqual(cut_of(ANY, NONE, []), 0)
        for one, other in ((SOME, ANY), (ANY, SOME), (NEVER, NONE), (PAIR, PAIR)):
            self.assertIsNone(cut_of(one, other, []))

    def test_all_short_words_of_small_machines(self):
        for seed in range(40):
            sheet, most = ((ONE, 5), (BARE, 6), (TWO, 3))[seed % 3]
            one = some_machine(seed, sheet, rooms=3, share=2 + seed % 2)
            other = some_machine(seed + 100, sheet, rooms=2, share=2)
            for word in shut_words(sheet, most):
                told = kept(self, cut_of, one, other, word)
                self.assertEqual(told, plain_cut(one, other, word))
                self.assertEqual(told is not None, lets(in_row(one, other), word))

    def test_400_letters(self):
        self.assertEqual(cut_of(machine_of_plains(ONE, [], 5), ANY, ["b"] * 400), 5)
        self.assertEqual(cut_of(ANY, machine_of_plains(ONE, [0, 1, 2], None), ["b"] * 400), 398)
        deep = ["a"] * 199 + ["b"] * 2 + ["c"] * 199
        self.assertIsNone(cut_of(ANY, ANY, deep))
        nested = (ONE, 1, 1, (0,), (0,), (("close", 0, 0, "c", 0), ("open", 0, "a", 0, 0), ("plain", 0, "b", 0)))
        self.assertEqual(cut_of(ANY, nested, deep), 0)
        self.assertEqual(cut_of(ANY, PAIR, ["b"] * 397 + ["a", "b", "c"]), 397)

    def test_refusals_in_their_order(self):
        refused(self, NoSheet, cut_of, ANY, machine_of_plains(TWO, [], 0), ["x", "c"])
        refused(self, NoSheet, cut_of, ANY, (BARE,) + NEVER[1:], [])
        self.assertEqual(refused(self, NoLetter, cut_of, ANY, ANY, ["c", "a", "x", "y"]).place, 2)
        self.assertEqual(refused(self, NotShut, cut_of, ANY, ANY, ["a", "b", "c", "c", "a"]).place, 3)
        self.assertEqual(refused(self, NotShut, cut_of, NEVER, NEVER, ["b", "a", "a", "c"]).place, 1)


class CutsOf(unittest.TestCase):
    def test_ordinary(self):
        self.assertEqual(cuts_of(machine_of_plains(ONE, [2], None), ["b"] * 6), [0, 2, 4, 6])
        self.assertEqual(cuts_of(PAIR, ["a", "c", "a", "b", "c"]), [0, 2, 5])
        self.assertEqual(cuts_of(PAIR, ["a", "b", "c"]), [0, 3])

    def test_none_where_there_are_none(self):
        for word in (["b"], ["a", "a", "c", "c"], ["a", "c", "b"]):
            self.assertIsNone(cuts_of(PAIR, word))
        self.assertIsNone(cuts_of(machine_of_plains(ONE, [2, 4], None), ["b"] * 5))
        self.assertIsNone(cuts_of(NEVER, ["b"]))
        self.assertIsNone(cuts_of(NONE, ["b"]))

    def test_no_letters(self):
        for machine in (ANY, NONE, SOME, PAIR, NEVER):
            self.assertEqual(cuts_of(machine, []), [0])

    def test_a_way_that_isnt_the_first_one(self):
        # Taking the shortest or the longest piece each time would find no way.
        machine = machine_of_plains(ONE, [3, 5], None)
        for size in range(40):
            told = cuts_of(machine, ["b"] * size)
            self.assertEqual(told is not None, size not in (1, 2, 4, 7))
            if told is not None:
                self.assertIs(are_cuts(machine, ["b"] * size, told), True)
                self.assertTrue(all(behind - ahead in (3, 5) for ahead, behind in zip(told, told[1:])))

    def test_all_short_words_of_small_machines(self):
        for seed in range(40):
            sheet, most = ((ONE, 5), (BARE, 6), (TWO, 3))[seed % 3]
            machine = some_machine(seed, sheet, rooms=3, share=2 + seed % 2)
            for word in shut_words(sheet, most):
                told = kept(self, cuts_of, machine, word)
                self.assertEqual(told is not None, lets(again(machine), word))
                if told is not None:
                    self.assertIs(type(told), list)
                    self.assertTrue(plain_are_cuts(machine, word, told))

    def test_400_letters(self):
        self.assertEqual(cuts_of(PAIR, ["a", "c"] * 200), list(range(0, 401, 2)))
        machine = machine_of_plains(ONE, [7, 11], None)
        self.assertTrue(plain_are_cuts(machine, ["b"] * 400, cuts_of(machine, ["b"] * 400)))
        self.assertIsNone(cuts_of(machine_of_plains(ONE, [7], None), ["b"] * 400))
        word = long_word(4, TWO, 400)
        every = some_machine(1, TWO, rooms=1, marks=1, share=1)
        every = every[:4] + ((0,),) + every[5:]
        self.assertTrue(plain_are_cuts(every, word, cuts_of(every, word)))

    def test_what_is_told_is_the_askers_own(self):
        told = cuts_of(PAIR, ["a", "c"])
        told.append(9)
        told[0] = 7
        self.assertEqual(cuts_of(PAIR, ["a", "c"]), [0, 2])
        cuts_of(PAIR, []).append(3)
        self.assertEqual(cuts_of(PAIR, []), [0])

    def test_refusals(self):
        self.assertEqual(refused(self, NoLetter, cuts_of, ANY, ["c", "x"]).place, 1)
        self.assertEqual(refused(self, NotShut, cuts_of, ANY, ["b", "c"]).place, 1)


class AreCuts(unittest.TestCase):
    def told(self, machine, word, places, good):
        self.assertIs(kept(self, are_cuts, machine, word, places), good)

    def test_ordinary(self):
        word = ["b"] * 4
        for places in ([0, 4], [0, 1, 4], [0, 1, 2, 3, 4]):
            self.told(SOME, word, places, True)
        two = machine_of_plains(ONE, [2], None)
        self.told(two, word, [0, 2, 4], True)
        self.told(two, word, [0, 4], False)
        self.told(two, word, [0, 1, 2, 4], False)

    def test_lists_of_another_form(self):
        word = ["b"] * 4
        for places in (
            [],
            [0],
            [4],
            [1, 4],
            [0, 3],
            [4, 0],
            [0, 3, 2, 4],
            [0, 2, 2, 4],
            [0, 0, 4],
            [0, 4, 4],
            [0, 5],
            [0, 4, 5],
            [0, 2, 10**30],
            [-1, 4],
            [-1, 0, 4],
            [0, -4, 4],
            [0, -2, 4],
            [-4, 0],
        ):
            self.told(ANY, word, places, False)

    def test_places_within_a_pair(self):
        every = (ONE, 1, 1, (0,), (0,), (("close", 0, 0, "c", 0), ("open", 0, "a", 0, 0), ("plain", 0, "b", 0)))
        word = ["b", "a", "b", "b", "c", "b"]
        for places in ([0, 6], [0, 1, 6], [0, 5, 6], [0, 1, 5, 6]):
            self.told(every, word, places, True)
        for place in (2, 3, 4):
            self.told(every, word, [0, place, 6], False)
        self.told(every, word, [0, 2, 4, 6], False)

    def test_no_letters(self):
        for machine in (ANY, SOME, NEVER):
            self.told(machine, [], [0], True)
            for places in ([], [0, 0], [1], [-1], [0, 1]):
                self.told(machine, [], places, False)

    def test_all_lists_of_short_words(self):
        for seed in range(30):
            sheet, most = ((ONE, 4), (BARE, 6))[seed % 2]
            machine = some_machine(seed, sheet, rooms=3, share=2)
            for word in shut_words(sheet, most):
                for many in range(len(word) + 2):
                    for places in itertools.combinations(range(len(word) + 1), many):
                        self.told(machine, word, list(places), plain_are_cuts(machine, word, list(places)))

    def test_400_letters(self):
        word = ["a", "c"] * 200
        self.told(PAIR, word, list(range(0, 401, 2)), True)
        self.told(PAIR, word, list(range(0, 401, 4)), False)
        self.told(PAIR, word, list(range(401)), False)

    def test_refusals(self):
        self.assertEqual(refused(self, NoLetter, are_cuts, ANY, ["c", "x"], []).place, 1)
        self.assertEqual(refused(self, NotShut, are_cuts, ANY, ["b", "c"], [0, 2]).place, 1)


if __name__ == "__main__":
    unittest.main()
