import itertools
import unittest

from echohall.errors import NoLetter, NotShut
from echohall.looks import is_walk, shows_bar
from echohall.walks import lets, walk
from tests.helps import (
    BARE,
    ONE,
    TWO,
    all_moves,
    kept,
    long_word,
    plain_is_walk,
    plain_lets,
    plain_shows_bar,
    refused,
    shut_words,
    some_machine,
)

# Two opens of one name lay unlike marks; only by the mark is it known which close leads to the last room.
PARTED = (
    ONE,
    4,
    2,
    (0, 1),
    (3,),
    (
        ("close", 2, 0, "c", 2),
        ("close", 2, 1, "c", 3),
        ("open", 0, "a", 0, 2),
        ("open", 0, "a", 1, 0),
        ("open", 1, "a", 1, 2),
        ("plain", 2, "b", 2),
    ),
)
# It lets by one plain with any number of pairs around it.
NEST = (ONE, 2, 1, (0,), (1,), (("close", 1, 0, "c", 1), ("open", 0, "a", 0, 0), ("plain", 0, "b", 1)))


class Walks(unittest.TestCase):
    def told(self, machine, word, naive=True):
        """What walk tells, held against the looks, the plain looks and lets."""
        kind, paper = kept(self, walk, machine, word)
        self.assertIs(type(paper), list)
        self.assertIs(kept(self, lets, machine, word), kind == "walk")
        if kind == "walk":
            self.assertIs(is_walk(machine, word, paper), True)
            self.assertTrue(plain_is_walk(machine, word, paper))
        else:
            self.assertEqual(kind, "bar")
            self.assertIs(shows_bar(machine, word, paper), True)
            self.assertTrue(plain_shows_bar(machine, word, paper))
            self.assertTrue(all(type(row) is list for row in paper))
        if naive:
            self.assertEqual(kind == "walk", plain_lets(machine, word))
        return kind

    def test_ordinary(self):
        self.assertEqual(walk(NEST, ["b"]), ("walk", [("plain", 0, "b", 1)]))
        self.assertEqual(
            walk(NEST, ["a", "b", "c"]),
            ("walk", [("open", 0, "a", 0, 0), ("plain", 0, "b", 1), ("close", 1, 0, "c", 1)]),
        )
        for word, good in (([], False), (["b", "b"], False), (["a", "c"], False), (["a", "b", "c", "b"], False)):
            self.assertIs(lets(NEST, word), good)
            self.assertEqual(self.told(NEST, word), "bar")

    def test_marks_part_two_opens_of_one_name(self):
        self.assertEqual(walk(PARTED, ["a", "c"]), ("walk", [("open", 1, "a", 1, 2), ("close", 2, 1, "c", 3)]))
        for word, kind in (
            (["a", "a", "c", "c"], "walk"),
            (["a", "b", "c"], "walk"),
            (["a", "a", "a", "c", "c", "c"], "bar"),
            (["a", "c", "a", "c"], "bar"),
        ):
            self.assertEqual(self.told(PARTED, word), kind)

    def test_no_letters(self):
        for firsts in ((0,), (1,), (0, 1), (0, 2)):
            for lasts in ((), (0,), (1,), (1, 2), (2,)):
                machine = (ONE, 3, 0, firsts, lasts, (("plain", 0, "b", 1),))
                good = any(room in lasts for room in firsts)
                self.assertEqual(self.told(machine, []), "walk" if good else "bar")
                if good:
                    self.assertEqual(walk(machine, []), ("walk", []))

    def test_no_last_room_lets_none_by(self):
        machine = (ONE, 2, 2, (0, 1), (), tuple(all_moves(ONE, 2, 2)))
        for word in shut_words(ONE, 5):
            self.assertEqual(self.told(machine, word), "bar")

    def test_all_moves_let_all_by(self):
        machine = (ONE, 2, 2, (0,), (1,), tuple(all_moves(ONE, 2, 2)))
        for word in shut_words(ONE, 5):
            self.assertEqual(self.told(machine, word), "walk" if word else "bar")

    def test_many_machines(self):
        kinds = set()
        for seed in range(60):
            for word in shut_words(ONE, 5):
                kinds.add(self.told(some_machine(seed), word))
        for seed in range(40):
            for word in shut_words(BARE, 6):
                kinds.add(self.told(some_machine(seed, BARE, 4, 3, 6), word))
            for word in shut_words(TWO, 3):
                kinds.add(self.told(some_machine(seed, TWO, 3, 2, 4), word))
        self.assertEqual(kinds, {"walk", "bar"})

    def test_never_both(self):
        for seed in range(25):
            machine = some_machine(seed, ONE, 2, 1, 2)
            for word in shut_words(ONE, 3):
                rows = [list(row) for row in itertools.product(machine[5], repeat=len(word))]
                found = [row for row in rows if is_walk(machine, word, row)]
                kind, paper = walk(machine, word)
                self.assertEqual(kind == "walk", found != [])
                pairs = list(itertools.product(range(2), repeat=2))
                if kind == "walk":
                    self.assertIn(paper, found)
                    safe = [pair for pair in pairs if pair[1] not in machine[4]]
                    for ahead in (pairs, safe):
                        self.assertFalse(shows_bar(machine, word, [ahead] * len(word) + [safe]))

    def test_400_letters(self):
        kinds = set()
        for seed in range(12):
            for sheet, rooms, marks, share in ((ONE, 6, 3, 8), (TWO, 5, 3, 8), (ONE, 6, 6, 2), (BARE, 6, 6, 20)):
                word = long_word(seed, sheet, 400)
                self.assertEqual(len(word), 400)
                machine = some_machine(seed, sheet, rooms, marks, share)
                machine = machine[:5] + (machine[5][:240],)
                kinds.add(self.told(machine, word, naive=False))
        self.assertEqual(kinds, {"walk", "bar"})

    def test_200_opens_within_one_another(self):
        self.assertEqual(self.told(NEST, ["a"] * 199 + ["b"] + ["c"] * 199, naive=False), "walk")
        self.assertEqual(self.told(NEST, ["a"] * 200 + ["c"] * 200, naive=False), "bar")
        for seed in range(12):
            machine = some_machine(seed, ONE, 5, 4, 6)
            self.told(machine, ["a"] * 200 + ["c"] * 200, naive=False)

    def test_machines_with_a_great_many_walks(self):
        machine = (ONE, 6, 3, (0, 1, 2, 3, 4, 5), (5,), tuple(all_moves(ONE, 6, 3)[:240]))
        word = ["a", "b"] * 100 + ["c", "b"] * 100
        self.told(machine, word, naive=False)

    def test_more_than_a_machine_has(self):
        moves = tuple(("plain", p, "b", p + 1) for p in range(300))
        machine = (ONE, 301, 0, (0,), (300,), moves)
        self.assertEqual(walk(machine, ["b"] * 300), ("walk", list(moves)))
        self.assertEqual(self.told(machine, ["b"] * 299, naive=False), "bar")

    def test_refusals(self):
        for function in (walk, lets):
            self.assertEqual(refused(self, NoLetter, function, NEST, ["c", "a", "d", "e"]).place, 2)
            self.assertEqual(refused(self, NoLetter, function, NEST, [""]).place, 0)
            self.assertEqual(refused(self, NotShut, function, NEST, ["a", "c", "c", "a"]).place, 2)
            self.assertEqual(refused(self, NotShut, function, NEST, ["b", "a", "a", "c"]).place, 1)

    def test_what_is_told_is_the_askers_own(self):
        for word in (["a", "b", "c"], ["a", "c"], []):
            first = walk(NEST, word)
            again = walk(NEST, word)
            self.assertEqual(first, again)
            for row in first[1]:
                if isinstance(row, list):
                    row.append((7, 7))
            first[1].clear()
            self.assertEqual(walk(NEST, word), again)

    def test_no_list_of_a_bar_stands_in_it_twice(self):
        kind, lists = walk(NEST, ["b"] * 5)
        self.assertEqual(kind, "bar")
        self.assertEqual(len({id(row) for row in lists}), 6)


if __name__ == "__main__":
    unittest.main()
