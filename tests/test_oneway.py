import unittest

from echohall.errors import TooMany
from echohall.machines import is_one_way
from echohall.oneway import one_way
from echohall.walks import lets
from tests.helps import (
    BARE,
    ONE,
    TWO,
    all_moves,
    all_words,
    configs,
    is_shaped,
    kept,
    opens_left,
    plain_holds,
    plain_lets,
    refused,
    shut_words,
    some_machine,
)


def told_or_none(machine, limit):
    try:
        return one_way(machine, limit)
    except TooMany:
        return None


def chain(rooms):
    """A machine of plains in a row: it has as many sets of holds as rooms."""
    moves = tuple(("plain", p, "b", p + 1) for p in range(rooms - 1))
    return (ONE, rooms, 0, (0,), (rooms - 1,), moves)


def words_to_rooms(machine, most):
    """By one-way steps, a word of at most so many letters that leads to each room that one leads to."""
    letters = machine[0][0] + machine[0][1] + machine[0][2]
    found = {}
    now = [((), (machine[3][0], ()))]
    seen = {now[0][1]}
    for _ in range(most + 1):
        behind = []
        for word, (room, pile) in now:
            found.setdefault(room, list(word))
            for move in machine[5]:
                if move[1] != room:
                    continue
                if move[0] == "close":
                    if not pile or pile[-1] != move[2]:
                        continue
                    config, letter = (move[4], pile[:-1]), move[3]
                else:
                    laid = (move[3],) if move[0] == "open" else ()
                    config, letter = (move[-1], pile + laid), move[2]
                if config not in seen:
                    seen.add(config)
                    behind.append((word + (letter,), config))
        if len(found) == machine[1]:
            break
        now = behind
    assert all(letter in letters for word in found.values() for letter in word)
    return found


class OneWay(unittest.TestCase):
    def looked(self, machine, told, most, reach):
        """All that point 11 says, over all letters up to most; each room by letters up to reach."""
        made, holds = told
        self.assertTrue(is_shaped(made))
        self.assertTrue(is_one_way(made))
        self.assertEqual((made[0], made[1], made[3]), (machine[0], len(holds), (0,)))
        self.assertTrue(all(pairs == sorted(set(pairs)) and pairs for pairs in holds))
        self.assertEqual(len({tuple(pairs) for pairs in holds}), len(holds))
        self.assertEqual(holds[0], [(p, p) for p in machine[3]])
        for letters in all_words(machine[0], most):
            if opens_left(machine[0], letters) is None:
                continue
            rooms = {room for room, pile in configs(made, letters)}
            want = plain_holds(machine, letters)
            self.assertEqual([holds[room] for room in rooms], [want] if want else [])
        for word in shut_words(machine[0], most + 1):
            self.assertEqual(lets(made, word), plain_lets(machine, word))
        found = words_to_rooms(made, reach)
        self.assertEqual(sorted(found), list(range(len(holds))))
        for room, letters in found.items():
            self.assertEqual(plain_holds(machine, letters), holds[room])

    def test_ordinary(self):
        machine = (ONE, 2, 1, (0, 1), (1,), (("close", 1, 0, "c", 1), ("open", 0, "a", 0, 0), ("plain", 0, "b", 1)))
        told = kept(self, one_way, machine)
        made, holds = told
        self.assertEqual(sorted(holds), sorted([[(0, 0), (1, 1)], [(0, 0)], [(0, 1)]]))
        self.looked(machine, told, 5, 6)

    def test_many_machines(self):
        tried = 0
        for seed in range(40):
            for sheet, rooms, marks, share in ((ONE, 2, 2, 3), (ONE, 3, 2, 5), (BARE, 3, 2, 4), (TWO, 2, 2, 4)):
                machine = some_machine(seed, sheet, rooms, marks, share)
                told = told_or_none(machine, 12)
                if told is not None:
                    self.looked(machine, told, 3 if sheet == TWO else 4, 11)
                    tried += 1
        self.assertGreater(tried, 60)

    def test_opens_that_aren_t_answered_count(self):
        # No close at all: the rooms within are told all the same.
        machine = (ONE, 3, 1, (0,), (0,), (("open", 0, "a", 0, 1), ("plain", 1, "b", 2)))
        made, holds = one_way(machine)
        self.assertEqual(sorted(holds), [[(0, 0)], [(1, 1)], [(1, 2)]])
        self.looked(machine, (made, holds), 4, 4)

    def test_a_close_is_only_tried_with_its_own_level(self):
        # Behind "a" only 1 comes, behind "b", "a" only 3: a close from 3 by the mark of the first open never comes.
        moves = (
            ("close", 1, 0, "c", 2),
            ("close", 3, 0, "c", 4),
            ("open", 0, "a", 0, 1),
            ("open", 5, "a", 0, 3),
            ("plain", 0, "b", 5),
        )
        machine = (ONE, 6, 1, (0,), (2, 4), moves)
        made, holds = one_way(machine)
        self.assertEqual(sorted(holds), sorted([[(0, 0)], [(1, 1)], [(0, 2)], [(0, 5)], [(3, 3)], [(0, 4)]]))
        self.looked(machine, (made, holds), 5, 6)
        one_way(machine, 6)
        refused(self, TooMany, one_way, machine, 5)

    def test_limits(self):
        tried = 0
        for seed in range(40):
            machine = some_machine(seed)
            told = told_or_none(machine, 60)
            if told is None:
                refused(self, TooMany, one_way, machine)
                continue
            many = len(told[1])
            self.assertEqual(one_way(machine, many), told)
            self.assertEqual(one_way(machine, limit=many), told)
            if many > 1:
                refused(self, TooMany, one_way, machine, many - 1)
                refused(self, TooMany, one_way, machine, limit=many - 1)
                refused(self, TooMany, one_way, machine, 1)
            if many <= 16:
                self.assertEqual(one_way(machine), told)
            else:
                refused(self, TooMany, one_way, machine)
            tried += 1
        self.assertGreater(tried, 20)

    def test_without_a_limit_as_by_16(self):
        self.assertEqual(len(one_way(chain(16))[1]), 16)
        refused(self, TooMany, one_way, chain(17))
        self.assertEqual(len(one_way(chain(17), 17)[1]), 17)
        self.assertEqual(len(one_way(chain(60), limit=60)[1]), 60)
        refused(self, TooMany, one_way, chain(61), 60)

    def test_the_empty_set_is_not_counted(self):
        # Behind "b", and behind "a", there is no walk.
        machine = (ONE, 1, 0, (0,), (0,), ())
        self.assertEqual(one_way(machine, 1), ((ONE, 1, 0, (0,), (0,), ()), [[(0, 0)]]))

    def test_no_moves(self):
        for firsts, lasts, let in (((0, 2), (1,), False), ((0, 2), (2,), True), ((1,), (), False)):
            machine = (TWO, 3, 4, firsts, lasts, ())
            made, holds = one_way(machine, 1)
            self.assertEqual(holds, [[(p, p) for p in firsts]])
            self.assertEqual(made[5], ())
            self.assertIs(lets(made, []), let)
            self.assertIs(lets(made, ["m"]), False)

    def test_a_great_machine_is_refused_soon(self):
        for seed in range(10):
            machine = some_machine(seed, TWO, 6, 6, 6)
            refused(self, TooMany, one_way, machine[:5] + (machine[5][:240],))

    def test_all_moves(self):
        machine = (ONE, 6, 3, (0,), (5,), tuple(all_moves(ONE, 6, 3)[:240]))
        made, holds = one_way(machine, 60)
        for word in shut_words(ONE, 5):
            self.assertEqual(lets(made, word), plain_lets(machine, word))

    def test_told_again_and_again(self):
        machine = some_machine(3)
        made, holds = one_way(machine, 60)
        once = (made, [list(pairs) for pairs in holds])
        holds[0].append((8, 8))
        holds.clear()
        self.assertEqual(one_way(machine, 60), once)
        # What is told is a machine again, and one way already: each room has one pair in each level.
        twice, told = one_way(made, 60)
        self.assertTrue(is_one_way(twice))
        for word in shut_words(ONE, 6):
            self.assertEqual(lets(twice, word), plain_lets(machine, word))


if __name__ == "__main__":
    unittest.main()
