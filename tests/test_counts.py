import unittest

from echohall.counts import how_many, kinds_counted, within_depth
from echohall.errors import NoOneWay, TooMany
from echohall.machines import is_one_way
from echohall.nests import depth_of
from echohall.put import turned
from echohall.tellings import kind_of, machine_by, telling
from tests.helps import (
    BARE,
    EVEN_TOLD,
    NAMED_TOLD,
    ONE,
    TWO,
    WINDING,
    all_moves,
    how_many_by_depth,
    how_many_shut,
    kept,
    machine_of_plains,
    one_way_machines,
    plain_lets,
    refused,
    shut_words,
    some_machine,
)

EVERY = {sheet: (sheet, 1, 1, (0,), (0,), tuple(all_moves(sheet, 1, 1))) for sheet in (ONE, BARE, TWO)}
EVEN = (ONE, 2, 0, (0,), (0,), (("plain", 0, "b", 1), ("plain", 1, "b", 0)))


def even_parts(sheet, n):
    """How many shut words of n letters have an even number of plains and pairs that nothing stands around."""
    even, odd = [1], [0]
    for size in range(1, n + 1):
        parts = {1: len(sheet[1])}
        for more in range(2, size + 1):
            parts[more] = parts.get(more, 0) + len(sheet[0]) * len(sheet[2]) * how_many_shut(sheet, more - 2)
        even.append(sum(parts[more] * odd[size - more] for more in parts))
        odd.append(sum(parts[more] * even[size - more] for more in parts))
    return even[n]


class HowMany(unittest.TestCase):
    def test_by_hand(self):
        self.assertEqual([kept(self, how_many, EVEN, n) for n in range(6)], [1, 0, 1, 0, 1, 0])
        self.assertEqual([how_many(EVERY[BARE], n) for n in range(11)], [1, 0, 1, 0, 2, 0, 5, 0, 14, 0, 42])
        self.assertEqual([how_many(EVERY[ONE], n) for n in range(8)], [1, 1, 2, 4, 9, 21, 51, 127])

    def test_held_against_all_short_words(self):
        for machine in one_way_machines():
            most = {ONE: 7, BARE: 10, TWO: 4}[machine[0]]
            counts = [0] * (most + 1)
            for word in shut_words(machine[0], most):
                counts[len(word)] += plain_lets(machine, word)
            self.assertEqual([kept(self, how_many, machine, n) for n in range(most + 1)], counts)

    def test_60_letters(self):
        for sheet, machine in EVERY.items():
            self.assertEqual(how_many(machine, 60), how_many_shut(sheet, 60))
        self.assertEqual(how_many(EVERY[BARE], 60), 3814986502092304)
        self.assertEqual(how_many(EVEN, 60), 1)
        self.assertEqual(how_many(EVEN, 59), 0)
        four = tuple(tuple(sign * many for many in range(1, 5)) for sign in "abc")
        machine = (four, 1, 1, (0,), (0,), tuple(all_moves(four, 1, 1)))
        self.assertEqual(how_many(machine, 60), how_many_shut(four, 60))
        ring = (four, 6, 0, (0,), (0,), tuple(sorted(("plain", p, b, (p + 1) % 6) for p in range(6) for b in four[1])))
        self.assertEqual(how_many(ring, 60), 4**60)

    def test_60_letters_of_lopsided_sheets(self):
        letters = [sign * many for sign in "abc" for many in range(1, 5)]
        for opens, plains, closes in ((1, 4, 1), (4, 0, 1), (1, 0, 4), (4, 1, 1), (1, 1, 4)):
            sheet = (tuple(letters[:opens]), tuple(letters[4 : 4 + plains]), tuple(letters[8 : 8 + closes]))
            # Two rooms, so that the one's counts would be seen if they ran over into the other's.
            moves = []
            for p in range(2):
                moves += [("open", p, a, p, 0) for a in sheet[0]] + [("plain", p, b, 1 - p) for b in sheet[1]]
                moves += [("close", p, m, c, 1 - m) for m in range(2) for c in sheet[2]]
            moves = tuple(sorted(moves))
            told = [how_many((sheet, 2, 2, (0,), (last,), moves), 60) for last in range(2)]
            self.assertEqual(sum(told), how_many_shut(sheet, 60))
            # Each plain and each pair changes the room, so the parts beside one another are counted by twos.
            self.assertEqual(told[0], even_parts(sheet, 60))

    def test_with_the_turned_machine_all_words(self):
        for machine in one_way_machines():
            for n in (0, 1, 5, 20, 60):
                both = how_many(machine, n) + how_many(turned(machine), n)
                self.assertEqual(both, how_many_shut(machine[0], n))

    def test_no_letters(self):
        self.assertEqual(how_many((ONE, 1, 0, (0,), (0,), ()), 0), 1)
        self.assertEqual(how_many((ONE, 2, 0, (1,), (0,), ()), 0), 0)

    def test_no_last_room_and_other_first_rooms(self):
        for n in (0, 1, 2, 60):
            self.assertEqual(how_many(EVERY[ONE][:4] + ((),) + EVERY[ONE][5:], n), 0)
            self.assertEqual(how_many(EVEN[:3] + ((1,),) + EVEN[4:], n), n % 2)

    def test_no_one_way(self):
        for machine in (
            WINDING,
            EVEN[:3] + ((0, 1),) + EVEN[4:],
            EVEN[:5] + (EVEN[5] + (("plain", 1, "b", 1),),),
            (ONE, 1, 2, (0,), (0,), (("open", 0, "a", 0, 0), ("open", 0, "a", 1, 0))),
            (ONE, 2, 1, (0,), (0,), (("close", 0, 0, "c", 0), ("close", 0, 0, "c", 1))),
        ):
            self.assertFalse(is_one_way(machine))
            refused(self, NoOneWay, how_many, machine, 0)
            refused(self, NoOneWay, how_many, machine, 60)
            refused(self, NoOneWay, within_depth, machine, 0, 0)
            refused(self, NoOneWay, within_depth, machine, 60, 30)
            refused(self, NoOneWay, within_depth, machine, 60, 2)


class WithinDepth(unittest.TestCase):
    def test_by_hand(self):
        self.assertEqual([kept(self, within_depth, EVERY[ONE], 4, deep) for deep in range(4)], [1, 8, 9, 9])
        self.assertEqual([within_depth(EVERY[BARE], 6, deep) for deep in range(5)], [0, 1, 4, 5, 5])

    def test_held_against_all_short_words(self):
        for machine in one_way_machines():
            most = {ONE: 6, BARE: 8, TWO: 4}[machine[0]]
            words = [word for word in shut_words(machine[0], most) if plain_lets(machine, word)]
            for n in range(most + 1):
                depths = [depth_of(machine[0], word) for word in words if len(word) == n]
                for deep in range(6):
                    want = len([depth for depth in depths if depth <= deep])
                    self.assertEqual(kept(self, within_depth, machine, n, deep), want)

    def test_60_letters(self):
        for sheet, machine in EVERY.items():
            for deep in (0, 1, 2, 3, 10, 28, 29, 30):
                self.assertEqual(within_depth(machine, 60, deep), how_many_by_depth(sheet, 60, deep))
                self.assertEqual(within_depth(machine, 59, deep), how_many_by_depth(sheet, 59, deep))
            self.assertEqual(within_depth(machine, 60, 30), how_many(machine, 60))
        self.assertEqual(how_many(EVERY[BARE], 60) - within_depth(EVERY[BARE], 60, 29), 1)

    def test_a_depth_that_lets_none_and_one_that_lets_all(self):
        # One pair and what stands in it: a depth of 1 at least.
        pair = (ONE, 3, 1, (0,), (2,), (("close", 1, 0, "c", 2), ("open", 0, "a", 0, 1), ("plain", 1, "b", 1)))
        for n in (2, 3, 60):
            self.assertEqual(within_depth(pair, n, 0), 0)
            for deep in (1, 2, 30):
                self.assertEqual(within_depth(pair, n, deep), 1)
        for deep in (0, 1, 30):
            self.assertEqual(within_depth(pair, 0, deep), 0)
            self.assertEqual(within_depth(EVERY[ONE], 0, deep), 1)
            self.assertEqual(within_depth(EVEN, 60, deep), 1)

    def test_no_last_room(self):
        for deep in (0, 5, 30):
            self.assertEqual(within_depth(EVERY[ONE][:4] + ((),) + EVERY[ONE][5:], 60, deep), 0)

    def test_deeper_is_never_fewer(self):
        for machine in one_way_machines()[:10]:
            counts = [within_depth(machine, 20, deep) for deep in range(12)]
            self.assertEqual(counts, sorted(counts))
            self.assertEqual(counts[-1], how_many(machine, 20))


class KindsCounted(unittest.TestCase):
    def test_by_hand(self):
        counted = [kept(self, kinds_counted, EVEN_TOLD, n) for n in range(4)]
        self.assertEqual(counted, [[1, 0, 0], [0, 1, 0], [1, 0, 1], [0, 1, 3]])
        self.assertEqual([kinds_counted(NAMED_TOLD, n) for n in range(3)], [[1, 0], [2, 0], [6, 2]])

    def test_held_against_all_short_words(self):
        seen = 0
        for seed in range(45):
            sheet, most = ((ONE, 7), (BARE, 10), (TWO, 4))[seed % 3]
            try:
                told = telling(some_machine(seed, sheet, rooms=2, marks=1, share=2 + seed % 2), 60)
            except TooMany:
                continue
            seen += len(told[1]) > 2
            words = shut_words(sheet, most)
            for n in range(most + 1):
                kinds = [kind_of(told, word) for word in words if len(word) == n]
                want = [kinds.count(kind) for kind in range(len(told[1]))]
                counted = kept(self, kinds_counted, told, n)
                self.assertEqual((type(counted), counted), (list, want))
        self.assertGreater(seen, 10)

    def test_their_sum_is_all_shut_words(self):
        for told in (EVEN_TOLD, NAMED_TOLD, telling(machine_of_plains(ONE, [14], None))):
            for n in (0, 1, 2, 17, 59, 60):
                counted = kinds_counted(told, n)
                self.assertEqual(len(counted), len(told[1]))
                self.assertEqual(sum(counted), how_many_shut(told[0], n))
                let = sum(counted[kind] for kind in told[2])
                self.assertEqual(let, how_many(machine_by(told), n))

    def test_one_kind(self):
        told = (BARE, ((),), (), (), ((0,),), (((0,),),))
        self.assertEqual([kinds_counted(told, n) for n in (0, 1, 2, 60)], [[1], [0], [1], [3814986502092304]])

    def test_what_is_told_is_the_askers_own(self):
        kinds_counted(EVEN_TOLD, 2).append(7)
        kinds_counted(EVEN_TOLD, 2)[0] = 7
        self.assertEqual(kinds_counted(EVEN_TOLD, 2), [1, 0, 1])


if __name__ == "__main__":
    unittest.main()
