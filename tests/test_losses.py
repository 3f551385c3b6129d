import unittest

from echohall.errors import NoLetter, NotShut
from echohall.losses import shows_loss
from tests.helps import (
    BARE,
    ONE,
    TWO,
    all_moves,
    all_words,
    kept,
    opens_left,
    plain_is_reach,
    plain_rest,
    plain_shows_loss,
    refused,
    some_machine,
    watch_of,
)

EVERY = (ONE, 1, 1, (0,), (0,), tuple(all_moves(ONE, 1, 1)))
# A pair with pairs or a plain in it, which never leads to the last room.
ROW = (
    ONE,
    4,
    2,
    (0,),
    (3,),
    (
        ("close", 1, 0, "c", 2),
        ("close", 2, 0, "c", 2),
        ("close", 2, 1, "c", 2),
        ("open", 0, "a", 0, 1),
        ("open", 1, "a", 1, 1),
        ("plain", 1, "b", 2),
    ),
)


def some_losses(most_opens=3):
    """(machine, letters, loss) for letters with no rest, few and several opens not answered."""
    found = []
    for seed in range(60):
        sheet = (ONE, BARE, TWO)[seed % 3]
        machine = some_machine(seed, sheet, 3, 2, 4 + seed % 4)
        taken = {}
        for letters in all_words(sheet, 3 if sheet == TWO else 4):
            left = opens_left(sheet, letters)
            if left is not None and left <= most_opens and taken.get(left, 0) < 3:
                loss = watch_of(machine, letters).loss()
                if loss is not None:
                    taken[left] = taken.get(left, 0) + 1
                    found.append((machine, letters, loss))
    return found


class Losses(unittest.TestCase):
    @classmethod
    def setUpClass(cls):
        cls.losses = some_losses()

    def both(self, machine, letters, loss):
        told = kept(self, shows_loss, machine, letters, loss)
        self.assertIs(told, plain_shows_loss(machine, letters, loss), (machine, letters, loss))
        return told

    def test_there_are_all_kinds_of_them(self):
        for left in range(4):
            some = [loss for machine, letters, loss in self.losses if opens_left(machine[0], letters) == left]
            self.assertGreater(len(some), 10)
            self.assertGreater(len([loss for loss in some if loss[1][-1]]), 2)

    def test_told_losses_are_right(self):
        for machine, letters, loss in self.losses:
            self.assertEqual((type(loss), len(loss), type(loss[0]), type(loss[1])), (tuple, 2, list, list))
            self.assertEqual(len(loss[1]), opens_left(machine[0], letters) + 1)
            self.assertTrue(self.both(machine, letters, loss))

    def test_told_just_where_there_is_no_rest(self):
        seen = {True: 0, False: 0}
        for seed in range(40):
            sheet = (ONE, BARE, TWO)[seed % 3]
            machine = some_machine(seed, sheet, 3, 1, 4)
            for letters in all_words(sheet, 3):
                if opens_left(sheet, letters) is not None:
                    watch = watch_of(machine, letters)
                    loss = watch.loss()
                    self.assertEqual(loss is None, watch.rest() is not None)
                    if loss is not None:
                        self.assertIsNone(plain_rest(machine, letters, 4))
                    seen[loss is None] += 1
        self.assertTrue(all(many > 100 for many in seen.values()), seen)

    def test_where_there_is_a_rest_none_is_right(self):
        # All pairs of rooms are closed by all that there is, but have a last room; fewer aren't closed.
        for seed in range(12):
            machine = some_machine(seed, ONE, 2, 1, 2)
            rooms = range(machine[1])
            full = [(p, q) for p in rooms for q in rooms]
            for letters in ([], ["a"], ["a", "a"], ["b", "a"]):
                if watch_of(machine, letters).rest() is None:
                    continue
                depth = opens_left(ONE, letters)
                for bits in range(16):
                    pairs = [pair for at, pair in enumerate(full) if bits >> at & 1]
                    for row in range(16):
                        last = [pair for at, pair in enumerate(full) if row >> at & 1]
                        self.assertFalse(self.both(machine, letters, (pairs, [full] * depth + [last])))

    def test_a_reach_that_is_none(self):
        for machine, letters, (pairs, levels) in self.losses[::3]:
            for at in range(len(pairs)):
                fewer = pairs[:at] + pairs[at + 1 :]
                self.assertFalse(plain_is_reach(machine, fewer))
                self.assertFalse(self.both(machine, letters, (fewer, levels)))
            self.assertFalse(self.both(machine, letters, ([], levels)))

    def test_a_pair_left_out(self):
        seen = {}
        for machine, letters, (pairs, levels) in self.losses:
            for level, row in enumerate(levels):
                for at in range(len(row)):
                    fewer = levels[:level] + [row[:at] + row[at + 1 :]] + levels[level + 1 :]
                    told = self.both(machine, letters, (pairs, fewer))
                    self.assertFalse(told)
                    seen[level] = seen.get(level, 0) + 1
        self.assertTrue(all(seen[level] > 20 for level in range(4)), seen)

    def test_a_last_room_in_the_last_list(self):
        for machine, letters, (pairs, levels) in self.losses:
            for last in machine[4]:
                for o in range(machine[1]):
                    more = levels[:-1] + [levels[-1] + [(o, last)]]
                    self.assertFalse(self.both(machine, letters, (pairs, more)))
            # Last rooms in the others may stand there.
            for room in machine[4]:
                if len(levels) > 1:
                    more = [levels[0] + [(machine[1] - 1, room)]] + levels[1:]
                    self.both(machine, letters, (pairs, more))

    def test_levels_more_less_and_turned_about(self):
        turned = 0
        for machine, letters, (pairs, levels) in self.losses:
            self.assertFalse(self.both(machine, letters, (pairs, levels + [[]])))
            self.assertFalse(self.both(machine, letters, (pairs, [[]] + levels)))
            self.assertFalse(self.both(machine, letters, (pairs, levels + [levels[-1]])))
            self.assertFalse(self.both(machine, letters, (pairs, levels[:-1])))
            self.assertFalse(self.both(machine, letters, (pairs, levels[1:])))
            self.assertFalse(self.both(machine, letters, (pairs, [])))
            if levels[::-1] != levels:
                turned += not self.both(machine, letters, (pairs, levels[::-1]))
        self.assertGreater(turned, 15)

    def test_pairs_more(self):
        seen = {True: 0, False: 0}
        for machine, letters, (pairs, levels) in self.losses[::2]:
            grid = [(p, q) for p in range(machine[1]) for q in range(machine[1])]
            for pair in grid:
                if pair not in pairs:
                    seen[self.both(machine, letters, (pairs + [pair], levels))] += 1
                for level, row in enumerate(levels):
                    if pair not in row:
                        more = levels[:level] + [row + [pair]] + levels[level + 1 :]
                        seen[self.both(machine, letters, (pairs, more))] += 1
        self.assertTrue(all(many > 100 for many in seen.values()), seen)

    def test_another_order_and_pairs_twice(self):
        for machine, letters, (pairs, levels) in self.losses:
            self.assertTrue(self.both(machine, letters, (pairs[::-1], [row[::-1] for row in levels])))
            self.assertTrue(self.both(machine, letters, (pairs + pairs, [row + row for row in levels])))

    def test_rooms_that_there_aren_t(self):
        for machine, letters, (pairs, levels) in self.losses[::4]:
            many = machine[1]
            for pair in ((many, many), (0, many), (many, 0), (-1, 0), (0, -1), (10**30, 0), (0, -(10**30))):
                self.assertFalse(self.both(machine, letters, (pairs + [pair], levels)))
                for level, row in enumerate(levels):
                    more = levels[:level] + [row + [pair]] + levels[level + 1 :]
                    self.assertFalse(self.both(machine, letters, (pairs, more)))

    def test_by_hand(self):
        # Behind b there is nothing, so nothing must stand in the list.
        pairs = watch_of(ROW, ["b"]).loss()[0]
        self.assertTrue(self.both(ROW, ["b"], (pairs, [[]])))
        # There is a walk of a, but it leads to no last room: 0 to 1, from there to 2.
        self.assertEqual(watch_of(ROW, ["a"]).loss()[1], [[(1, 1), (1, 2)], [(0, 2)]])
        self.assertTrue(self.both(ROW, ["a"], (pairs, [[(1, 1), (1, 2)], [(0, 2)]])))
        self.assertFalse(self.both(ROW, ["a"], (pairs, [[(1, 1), (1, 2)], []])))
        self.assertFalse(self.both(ROW, ["a"], (pairs, [[(1, 1)], [(0, 2)]])))
        self.assertFalse(self.both(ROW, ["a"], (pairs, [[(1, 1), (1, 2)], [(0, 2), (0, 3)]])))
        # Of opens in a row each has its own list, the innermost first.
        told = watch_of(ROW, ["a", "a"]).loss()
        self.assertEqual(told[1], [[(1, 1), (1, 2)], [(1, 2)], [(0, 2)]])
        # With 2 a last room there is a rest.
        good = ROW[:4] + ((2,),) + ROW[5:]
        self.assertIsNone(watch_of(good, ["a"]).loss())
        self.assertFalse(self.both(good, ["a"], (pairs, [[(1, 1), (1, 2)], [(0, 2)]])))

    def test_letters_that_are_answered_begin_no_level(self):
        letters = ["a", "b", "c"]
        pairs, levels = watch_of(ROW, letters).loss()
        self.assertEqual(levels, [[(0, 2)]])
        self.assertTrue(self.both(ROW, letters, (pairs, levels)))
        self.assertFalse(self.both(ROW, letters, (pairs, levels + [[(0, 2)]])))

    def test_refusals(self):
        loss = watch_of(ROW, ["b"]).loss()
        for letters, place in ((["x"], 0), (["a", "b", "d", "x"], 2), (["c", "c", "x"], 2)):
            self.assertEqual(refused(self, NoLetter, shows_loss, ROW, letters, loss).place, place)
        for letters, place in ((["c"], 0), (["a", "c", "c", "a"], 2), (["b", "a", "c", "b", "c", "c"], 4)):
            self.assertEqual(refused(self, NotShut, shows_loss, ROW, letters, loss).place, place)
        # Opens that aren't answered are no reason to refuse, nor is a loss that is wrong.
        self.assertFalse(self.both(ROW, ["a", "a"], ([], [])))
        refused(self, NotShut, shows_loss, ROW, ["c"], ([], []))

    def test_two_hundred_opens(self):
        machine = EVERY[:4] + ((),) + EVERY[5:]
        letters = ["a"] * 200
        loss = watch_of(machine, letters).loss()
        self.assertEqual(loss, ([(0, 0)], [[(0, 0)]] * 201))
        self.assertTrue(shows_loss(machine, letters, loss))
        for level in (0, 1, 100, 199, 200):
            levels = [list(row) for row in loss[1]]
            levels[level] = []
            self.assertFalse(shows_loss(machine, letters, (loss[0], levels)))


if __name__ == "__main__":
    unittest.main()
