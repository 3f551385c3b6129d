import itertools
import random
import unittest

from echohall.errors import NoLetter, NotShut
from echohall.looks import is_walk, shows_bar
from echohall.walks import walk
from tests.helps import ONE, TWO, kept, plain_is_walk, plain_shows_bar, refused, shut_words, some_machine

MACHINE = (
    ONE,
    3,
    2,
    (0,),
    (2,),
    (
        ("close", 1, 0, "c", 1),
        ("close", 1, 0, "c", 2),
        ("close", 1, 1, "c", 2),
        ("open", 0, "a", 0, 1),
        ("open", 0, "a", 1, 1),
        ("open", 1, "a", 0, 1),
        ("open", 2, "a", 0, 1),
        ("plain", 0, "b", 0),
        ("plain", 1, "b", 1),
        ("plain", 1, "b", 2),
    ),
)
WORD = ["b", "a", "b", "a", "c", "c"]
WALK = [
    ("plain", 0, "b", 0),
    ("open", 0, "a", 0, 1),
    ("plain", 1, "b", 1),
    ("open", 1, "a", 0, 1),
    ("close", 1, 0, "c", 1),
    ("close", 1, 0, "c", 2),
]


def with_move(at, move):
    return WALK[:at] + [move] + WALK[at + 1 :]


class IsWalk(unittest.TestCase):
    def told(self, moves, good, word=WORD, machine=MACHINE):
        self.assertIs(kept(self, is_walk, machine, word, moves), good)

    def test_the_walk_itself(self):
        self.told(WALK, True)

    def test_left_out_or_twice(self):
        for at in range(len(WALK)):
            self.told(WALK[:at] + WALK[at + 1 :], False)
            self.told(WALK[:at] + [WALK[at]] + WALK[at:], False)
        self.told([], False)

    def test_of_another_mark(self):
        # Here the close still takes the open's room and letter, but another mark.
        self.told(with_move(5, ("close", 1, 1, "c", 2)), False)
        self.told(with_move(1, ("open", 0, "a", 1, 1)), False)
        both = with_move(1, ("open", 0, "a", 1, 1))
        both[5] = ("close", 1, 1, "c", 2)
        self.told(both, True)

    def test_the_mark_of_its_own_open(self):
        moves = (
            ("close", 0, 0, "c", 0),
            ("close", 0, 1, "c", 0),
            ("open", 0, "a", 0, 0),
            ("open", 0, "a", 1, 0),
        )
        machine = (ONE, 1, 2, (0,), (0,), moves)
        word = ["a", "a", "c", "a", "c", "c"]
        places = {2: 1, 4: 3, 5: 0}
        for marks in itertools.product((0, 1), repeat=6):
            row = [
                ("open", 0, "a", m, 0) if letter == "a" else ("close", 0, m, "c", 0) for letter, m in zip(word, marks)
            ]
            self.told(row, all(marks[k] == marks[j] for k, j in places.items()), word, machine)

    def test_by_another_letter(self):
        self.told(with_move(2, ("open", 1, "a", 0, 1)), False)
        self.told(WALK, False, ["b", "a", "a", "c", "b", "c"])
        self.told([("plain", 0, "b", 0), ("plain", 0, "b", 0)], False, ["a", "c"], (ONE, 1, 1, (0,), (0,), MACHINE[5]))

    def test_by_another_letter_of_the_same_part(self):
        moves = tuple(sorted(("plain", 0, b, 0) for b in TWO[1]))
        machine = (TWO, 1, 0, (0,), (0,), moves)
        for letter in TWO[1]:
            for move in moves:
                self.told([move], move[2] == letter, [letter], machine)

    def test_moves_that_the_machine_hasn_t(self):
        self.told(with_move(0, ("plain", 0, "b", 1)), False)
        self.told([("plain", 0, "b", 2)], False, ["b"])
        self.told([("plain", 0, "b", 9)], False, ["b"], MACHINE[:4] + ((2, 9),) + MACHINE[5:])
        for move in MACHINE[5]:
            without = MACHINE[:5] + (tuple(other for other in MACHINE[5] if other != move),)
            self.told(WALK, move not in WALK, WORD, without)

    def test_no_row(self):
        self.told(with_move(2, ("plain", 1, "b", 2)), False)
        self.told(with_move(4, ("close", 1, 0, "c", 2)), False)

    def test_first_and_last_rooms(self):
        self.told(WALK, False, WORD, MACHINE[:3] + ((1, 2),) + MACHINE[4:])
        self.told(WALK, True, WORD, MACHINE[:3] + ((0, 2),) + MACHINE[4:])
        self.told(with_move(5, ("close", 1, 0, "c", 1)), False)
        self.told(WALK, False, WORD, MACHINE[:4] + ((0, 1),) + MACHINE[5:])
        self.told(WALK, False, WORD, MACHINE[:4] + ((),) + MACHINE[5:])

    def test_what_is_no_move_at_all(self):
        for wrong in (
            (),
            ("plain",),
            ("plain", 1),
            (1, 2, 3),
            ("plain", 1, "b", 1, 1),
            ("b",),
            ("", -1, "b", 10**30),
            ("walk", 1, "b", 1),
        ):
            for at in range(len(WALK)):
                self.told(with_move(at, wrong), False)
            self.told([wrong], False, ["b"])
            self.told([wrong], False, [])

    def test_no_letters(self):
        meets = MACHINE[:4] + ((0, 2),) + MACHINE[5:]
        self.told([], False, [])
        self.told([], True, [], meets)
        self.told([("plain", 0, "b", 0)], False, [], meets)

    def test_all_rows_of_moves(self):
        for seed in range(12):
            machine = some_machine(seed, ONE, 2, 2, 3)
            for word in shut_words(ONE, 4):
                if len(machine[5]) ** len(word) > 5000:
                    continue
                for row in itertools.product(machine[5], repeat=len(word)):
                    row = list(row)
                    self.assertIs(is_walk(machine, word, row), plain_is_walk(machine, word, row))

    def test_refusals(self):
        for paper in ([], WALK, [("x",)]):
            self.assertEqual(refused(self, NoLetter, is_walk, MACHINE, ["c", "a", "d"], paper).place, 2)
            self.assertEqual(refused(self, NotShut, is_walk, MACHINE, ["a", "b"], paper).place, 0)
            self.assertEqual(refused(self, NotShut, is_walk, MACHINE, ["a", "b", "c", "c"], paper).place, 3)


# From 0 all letters lead to rooms that aren't last; 3 is last, and nothing leads there.
SAFE = (
    ONE,
    4,
    2,
    (0,),
    (3,),
    (
        ("close", 1, 0, "c", 2),
        ("close", 2, 1, "c", 3),
        ("open", 0, "a", 0, 1),
        ("open", 2, "a", 1, 2),
        ("plain", 0, "b", 0),
        ("plain", 1, "b", 1),
        ("plain", 2, "b", 2),
    ),
)


class ShowsBar(unittest.TestCase):
    def told(self, word, lists, good, machine=SAFE):
        self.assertIs(kept(self, shows_bar, machine, word, lists), good)
        self.assertEqual(plain_shows_bar(machine, word, lists), good)

    def test_the_first_list(self):
        self.told([], [[(0, 0)]], True)
        self.told([], [[]], False)
        self.told([], [[(0, 1), (1, 0)]], False)
        two = SAFE[:3] + ((0, 1),) + SAFE[4:]
        self.told([], [[(0, 0), (1, 1)]], True, two)
        self.told([], [[(0, 0)]], False, two)
        self.told([], [[(1, 1)]], False, two)

    def test_a_plain(self):
        self.told(["b"], [[(0, 0)], [(0, 0)]], True)
        self.told(["b"], [[(0, 0)], []], False)
        self.told(["b"], [[(0, 0)], [(1, 0), (0, 1)]], False)

    def test_an_open(self):
        self.told(["a", "c"], [[(0, 0)], [(1, 1)], [(0, 2)]], True)
        self.told(["a", "c"], [[(0, 0)], [], []], False)
        self.told(["a", "c"], [[(0, 0)], [(0, 1)], []], False)

    def test_a_close(self):
        self.told(["a", "c"], [[(0, 0)], [(1, 1)], []], False)
        self.told(["a", "c"], [[(0, 0)], [(1, 1)], [(1, 2), (0, 0)]], False)
        # The open's list counts, not that of another open, and only what its mark lets be taken.
        word = ["b", "a", "a", "c", "c"]
        machine = SAFE[:5] + (tuple(sorted([("open", 1, "a", 1, 1), *SAFE[5]])),)
        right = [[(0, 0)], [(0, 0)], [(1, 1)], [(1, 1)], [], []]
        self.told(word, right, True, machine)
        self.told(word, right[:3] + [[(1, 1), (1, 2)], [], []], False, machine)
        self.told(word, right[:3] + [[(1, 1), (1, 2)], [(1, 3)], []], True, machine)

    def test_the_last_list(self):
        self.told([], [[(0, 0), (0, 3)]], False)
        self.told([], [[(0, 0), (3, 0)]], True)
        self.told([], [[(0, 0), (7, 3)]], False)
        self.told([], [[(0, 0)]], False, SAFE[:4] + ((0,),) + SAFE[5:])
        self.told(["b"], [[(0, 0), (0, 3)], [(0, 0)]], True)

    def test_how_many_lists(self):
        self.told([], [], False)
        self.told([], [[(0, 0)], []], False)
        self.told(["b"], [[(0, 0)]], False)
        self.told(["b"], [[(0, 0)], [(0, 0)], [(0, 0)]], False)
        self.told(["b"], [], False)

    def test_pairs_more_than_needed(self):
        self.told(["b"], [[(0, 0), (9, 2)], [(0, 0), (9, 2)]], True)
        self.told(["b"], [[(0, 0), (9, 2)], [(0, 0)]], False)
        self.told(["b"], [[(0, 0), (-4, 0)], [(0, 0), (-4, 0)]], True)
        self.told(["b"], [[(0, 0), (-4, 0)], [(0, 0)]], False)
        self.told(["b"], [[(0, 0), (0, 9), (5, -1), (10**40, 10**40)], [(0, 0)]], True)
        self.told(["b"], [[(0, 0), (0, 0)], [(0, 0), (0, 0), (8, 8)]], True)
        # Around a pair: one more ahead of the open, one more within.
        self.told(["a", "c"], [[(0, 0), (9, 0)], [(1, 1)], [(0, 2)]], False)
        self.told(["a", "c"], [[(0, 0), (9, 0)], [(1, 1)], [(0, 2), (9, 2)]], True)
        self.told(["a", "c"], [[(0, 0), (0, 2)], [(1, 1), (2, 2)], [(0, 2), (0, 3)]], False)
        self.told(["a", "c"], [[(0, 0), (0, 9)], [(1, 1), (9, 1), (1, 9)], [(0, 2)]], True)
        self.told(["a", "c"], [[(0, 0)], [(1, 1), (9, 2)], [(0, 2), (4, 4)]], True)

    def test_where_there_is_a_walk_nothing_shows_a_bar(self):
        pairs = list(itertools.product(range(-1, 4), repeat=2))
        for word in (["a", "c"], ["b", "a", "a", "c", "c"]):
            self.assertEqual(walk(MACHINE, word)[0], "walk")
            good = [pair for pair in pairs if pair[1] != 2]
            self.told(word, [pairs] * (len(word) + 1), False, MACHINE)
            self.told(word, [pairs] * len(word) + [good], False, MACHINE)
            self.told(word, [good] * (len(word) + 1), False, MACHINE)

    def test_each_pair_left_out_of_a_least_bar(self):
        tried = 0
        for seed in range(30):
            machine = some_machine(seed)
            for word in shut_words(ONE, 4):
                kind, lists = walk(machine, word)
                if kind == "bar":
                    for k, row in enumerate(lists):
                        for pair in row:
                            less = [[x for x in other if x != pair or at != k] for at, other in enumerate(lists)]
                            self.told(word, less, False, machine)
                            tried += 1
        self.assertGreater(tried, 500)

    def test_any_lists(self):
        dice = random.Random(4)
        found = {True: 0, False: 0}
        for seed in range(60):
            machine = some_machine(seed, ONE, 3, 2, 5)
            for word in shut_words(ONE, 4):
                pairs = list(itertools.product(range(-1, 5), repeat=2))
                lists = [[pair for pair in pairs if dice.randrange(12) > 0] for _ in range(len(word) + 1)]
                lists[-1] = [pair for pair in lists[-1] if pair[1] not in machine[4]]
                good = plain_shows_bar(machine, word, lists)
                self.told(word, lists, good, machine)
                found[good] += 1
        self.assertGreater(min(found.values()), 50)

    def test_refusals(self):
        for paper in ([], [[(0, 0)]], [[], [], []]):
            self.assertEqual(refused(self, NoLetter, shows_bar, SAFE, ["c", "a", "d"], paper).place, 2)
            self.assertEqual(refused(self, NotShut, shows_bar, SAFE, ["a", "b"], paper).place, 0)
            self.assertEqual(refused(self, NotShut, shows_bar, SAFE, ["a", "b", "c", "c"], paper).place, 3)


if __name__ == "__main__":
    unittest.main()
