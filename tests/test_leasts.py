import unittest

from echohall.errors import TooLong
from echohall.leasts import least_between, least_word, shows_none
from echohall.put import in_row, met
from echohall.walks import lets
from tests.helps import (
    BARE,
    ONE,
    TWO,
    WINDING,
    all_moves,
    in_order,
    kept,
    machine_of_400,
    machine_of_plains,
    plain_leasts,
    plain_lets,
    plain_stretch,
    refused,
    shut_words,
    some_machine,
)


def plain_shows_none(machine, pairs):
    """Point 14, word for word."""
    sheet, rooms, marks, firsts, lasts, moves = machine
    inside = range(rooms)
    if any(p not in inside or q not in inside for p, q in pairs):
        return False
    wanted = [(p, p) for p in inside]
    for p, q in pairs:
        wanted += [(p, move[3]) for move in moves if move[0] == "plain" and move[1] == q]
        for r, s in pairs:
            for begin in moves:
                for end in moves:
                    if begin[0] == "open" and end[0] == "close" and begin[3] == end[2]:
                        if (begin[1], begin[4], end[1]) == (q, r, s):
                            wanted.append((p, end[4]))
    if any(p in firsts and q in lasts for p, q in pairs):
        return False
    return all(pair in pairs for pair in wanted)


def between(machine, p, q):
    return machine[:3] + ((p,), (q,)) + machine[5:]


class LeastWord(unittest.TestCase):
    def test_ordinary(self):
        pair = (ONE, 3, 1, (0,), (2,), (("close", 1, 0, "c", 2), ("open", 0, "a", 0, 1), ("plain", 1, "b", 1)))
        self.assertEqual(kept(self, least_word, pair), ("word", ["a", "c"]))
        self.assertEqual(least_word(machine_of_plains(ONE, [3, 5], None)), ("word", ["b"] * 3))

    def test_no_letters(self):
        self.assertEqual(least_word(machine_of_plains(ONE, [0, 1], None)), ("word", []))
        self.assertEqual(least_word((ONE, 3, 0, (0, 2), (1, 2), ()), 1), ("word", []))

    def test_the_lesser_by_the_order_of_the_sheet(self):
        def of(*words):
            moves = []
            for at, word in enumerate(words):
                moves += [("plain", 0, word[0], at + 1), ("plain", at + 1, word[1], 5)]
            return (TWO, 6, 0, (0,), (5,), tuple(sorted(moves)))

        # m stands ahead of dot in this sheet, and z, an open, ahead of both.
        self.assertEqual(least_word(of(("dot", "dot"), ("dot", "m"))), ("word", ["dot", "m"]))
        self.assertEqual(least_word(of(("dot", "m"), ("m", "dot"))), ("word", ["m", "dot"]))
        pair = (("close", 1, 0, "down", 5), ("open", 0, "up", 0, 1), ("plain", 0, "m", 2), ("plain", 2, "m", 5))
        self.assertEqual(least_word((TWO, 6, 1, (0,), (5,), pair)), ("word", ["up", "down"]))
        both = (
            ("close", 1, 0, "down", 5),
            ("close", 1, 1, "y", 5),
            ("open", 0, "up", 0, 1),
            ("open", 0, "up", 1, 1),
            ("open", 0, "z", 0, 1),
        )
        self.assertEqual(least_word((TWO, 6, 2, (0,), (5,), both)), ("word", ["z", "down"]))
        self.assertEqual(least_word((TWO, 6, 2, (0,), (5,), both[:4])), ("word", ["up", "y"]))

    def test_the_shorter_goes_ahead_of_the_lesser_letters(self):
        moves = (("close", 1, 0, "y", 5), ("open", 0, "z", 0, 1), ("plain", 0, "dot", 5))
        self.assertEqual(least_word((TWO, 6, 1, (0,), (5,), moves)), ("word", ["dot"]))

    def test_held_against_all_short_words(self):
        for sheet, most in ((ONE, 6), (BARE, 8), (TWO, 4)):
            words = in_order(sheet, shut_words(sheet, most))
            for seed in range(60):
                machine = some_machine(seed, sheet, rooms=2 + seed % 3, share=3 + seed % 3)
                found = [word for word in words if plain_lets(machine, word)]
                told = kept(self, least_word, machine)
                if found:
                    self.assertEqual(told, ("word", found[0]))
                elif told[0] == "word":
                    self.assertGreater(len(told[1]), most)
                    self.assertTrue(lets(machine, told[1]))
                else:
                    self.assertTrue(plain_shows_none(machine, told[1]))

    def test_a_reach_where_there_is_none(self):
        for machine in (
            (ONE, 1, 0, (0,), (), ()),
            (ONE, 2, 0, (0,), (1,), ()),
            (ONE, 2, 1, (0,), (1,), (("open", 0, "a", 0, 1),)),
            (ONE, 3, 2, (0,), (2,), (("close", 1, 1, "c", 2), ("open", 0, "a", 0, 1))),
            (ONE, 2, 0, (1,), (0,), (("plain", 0, "b", 1),)),
            (ONE, 6, 6, (0,), (), tuple(all_moves(ONE, 6, 6)[:240])),
        ):
            kind, pairs = kept(self, least_word, machine)
            self.assertEqual((kind, type(pairs)), ("reach", list))
            self.assertTrue(plain_shows_none(machine, pairs))
            self.assertIs(shows_none(machine, pairs), True)

    def test_just_most_letters_and_one_more(self):
        for size in range(1, 6):
            machine = machine_of_plains(ONE, [size], None)
            self.assertEqual(least_word(machine, size), ("word", ["b"] * size))
            self.assertEqual(least_word(machine, most=size), ("word", ["b"] * size))
            if size > 1:
                self.assertEqual(refused(self, TooLong, least_word, machine, size - 1).size, size)
                self.assertEqual(refused(self, TooLong, least_word, machine, most=1).size, size)

    def test_a_reach_is_told_whatever_most_is(self):
        machine = (ONE, 6, 0, (5,), (0,), machine_of_plains(ONE, [5], None)[5])
        self.assertEqual(least_word(machine, 1)[0], "reach")

    def test_hundreds_of_letters_by_few_rooms_and_marks(self):
        found = plain_leasts(WINDING)
        for p, q, size in ((0, 1, 170), (5, 1, 242), (4, 2, 292)):
            machine = between(WINDING, p, q)
            kind, word = least_word(machine)
            self.assertEqual((kind, len(word)), ("word", size))
            self.assertEqual(word, found[(p, q)])
            self.assertTrue(lets(machine, word))
            self.assertEqual(least_word(machine, most=size), ("word", word))
            self.assertEqual(refused(self, TooLong, least_word, machine, most=size - 1).size, size)
        for p, q, size in ((4, 1, 414), (0, 5, 1002), (3, 5, 1662)):
            self.assertEqual(refused(self, TooLong, least_word, between(WINDING, p, q)).size, size)

    def test_without_a_most_it_is_400(self):
        machine = machine_of_plains(ONE, [400], None)
        self.assertEqual(least_word(machine), ("word", ["b"] * 400))
        self.assertEqual(refused(self, TooLong, least_word, machine_of_plains(ONE, [401], None)).size, 401)

    def test_too_long_by_several_ways_of_one_size(self):
        plains = (("plain", 0, "b", 1), ("plain", 0, "b", 2), ("plain", 1, "b", 3), ("plain", 2, "b", 3))
        pairs = (
            ("close", 1, 0, "down", 3),
            ("close", 1, 0, "y", 3),
            ("open", 0, "up", 0, 1),
            ("open", 0, "z", 0, 1),
        )
        for machine, word in (
            ((ONE, 4, 1, (0,), (3,), plains), ["b", "b"]),
            ((TWO, 4, 1, (0,), (3,), pairs), ["z", "y"]),
        ):
            for function in (least_word, least_between):
                self.assertEqual(refused(self, TooLong, function, machine, 1).size, 2)
            self.assertEqual(least_word(machine, 2), ("word", word))
            self.assertEqual(least_between(machine, 2)[(0, 3)], word)

    def test_sizes_too_great_to_be_written(self):
        # Each room's way to the last one holds that of the room below it twice.
        moves = []
        for k in range(1, 41):
            moves += [("open", k, "a", k, k - 1), ("close", 0, k, "c", k - 1)]
        machine = (ONE, 41, 41, (40,), (0,), tuple(sorted(moves)))
        self.assertEqual(refused(self, TooLong, least_word, machine).size, 2**41 - 2)
        self.assertEqual(refused(self, TooLong, least_between, machine).size, 2**41 - 2)

    def test_of_machines_put_together(self):
        one, other = machine_of_plains(ONE, [3], None), machine_of_plains(ONE, [], 2)
        self.assertEqual(least_word(in_row(one, other)), ("word", ["b"] * 5))
        self.assertEqual(least_word(met(one, other)), ("word", ["b"] * 3))
        self.assertEqual(least_word(met(one, machine_of_plains(ONE, [2], None)))[0], "reach")

    def test_what_is_told_is_the_askers_own(self):
        machine = machine_of_plains(ONE, [2], None)
        least_word(machine)[1].append("b")
        self.assertEqual(least_word(machine), ("word", ["b", "b"]))
        never = (ONE, 2, 0, (0,), (1,), ())
        least_word(never)[1].clear()
        self.assertEqual(sorted(least_word(never)[1]), [(0, 0), (1, 1)])


class LeastBetween(unittest.TestCase):
    def test_ordinary(self):
        machine = (ONE, 3, 1, (0,), (2,), (("close", 1, 0, "c", 2), ("open", 0, "a", 0, 1), ("plain", 1, "b", 0)))
        want = {(0, 0): [], (1, 1): [], (2, 2): [], (0, 2): ["a", "c"], (1, 0): ["b"], (1, 2): ["b", "a", "c"]}
        self.assertEqual(kept(self, least_between, machine), want)

    def test_each_room_with_itself_by_no_letters(self):
        for rooms in range(1, 7):
            told = least_between((ONE, rooms, 0, (0,), (), ()))
            self.assertEqual(told, {(p, p): [] for p in range(rooms)})

    def test_just_the_pairs_that_words_lead_between(self):
        for sheet, most in ((ONE, 6), (BARE, 8), (TWO, 4)):
            words = in_order(sheet, shut_words(sheet, most))
            for seed in range(25):
                machine = some_machine(seed, sheet, rooms=2 + seed % 2, share=3 + seed % 2)
                want = {}
                for word in words:
                    for pair in plain_stretch(machine, word):
                        want.setdefault(pair, word)
                told = kept(self, least_between, machine)
                self.assertEqual({pair: word for pair, word in told.items() if len(word) <= most}, want)
                self.assertEqual(told, plain_leasts(machine))

    def test_greater_machines(self):
        for seed in range(20):
            machine = some_machine(seed, TWO, rooms=6, marks=4, share=12 + seed)
            self.assertEqual(least_between(machine), plain_leasts(machine))

    def test_hundreds_of_letters(self):
        found = plain_leasts(WINDING)
        self.assertEqual(least_between(WINDING, 1662), found)
        self.assertEqual(refused(self, TooLong, least_between, WINDING).size, 1662)
        self.assertEqual(refused(self, TooLong, least_between, WINDING, most=1661).size, 1662)
        # Without the moves into the farthest rooms all words are told.
        few = WINDING[:5] + (tuple(move for move in WINDING[5] if move[-1] not in (3, 5)),)
        self.assertEqual(least_between(few), plain_leasts(few))

    def test_too_long_tells_the_most_that_one_has(self):
        machine = machine_of_plains(ONE, [5], None)
        self.assertEqual(len(least_between(machine, most=5)), 21)
        for most in range(1, 5):
            self.assertEqual(refused(self, TooLong, least_between, machine, most).size, 5)
        # Whether rooms are first or last says nothing here.
        self.assertEqual(refused(self, TooLong, least_between, machine[:4] + ((),) + machine[5:], 4).size, 5)

    def test_without_a_most_it_is_400(self):
        machine = machine_of_400(0)
        told = least_between(machine)
        self.assertEqual(len(told[(8, 12)]), 400)
        self.assertEqual(told, plain_leasts(machine))
        self.assertEqual(refused(self, TooLong, least_between, machine_of_400(1)).size, 401)

    def test_what_is_told_is_the_askers_own(self):
        machine = machine_of_plains(ONE, [1], None)
        told = least_between(machine)
        told[(0, 0)].append("b")
        told[(0, 1)].append("b")
        told[(7, 7)] = []
        self.assertEqual(least_between(machine), {(0, 0): [], (1, 1): [], (0, 1): ["b"]})


class ShowsNone(unittest.TestCase):
    MACHINE = (
        ONE,
        5,
        1,
        (0,),
        (4,),
        (("close", 2, 0, "c", 3), ("open", 0, "a", 0, 1), ("plain", 1, "b", 2), ("plain", 3, "b", 0)),
    )
    REACH = [(0, 0), (1, 1), (2, 2), (3, 3), (4, 4), (1, 2), (0, 3), (3, 0)]

    def told(self, machine, pairs, good):
        self.assertIs(kept(self, shows_none, machine, pairs), good)
        self.assertEqual(plain_shows_none(machine, pairs), good)

    def test_each_pair_left_out_alone(self):
        self.told(self.MACHINE, self.REACH, True)
        self.told(self.MACHINE, self.REACH[::-1], True)
        for at in range(len(self.REACH)):
            # (0, 0), too: each room has to stand there, whether words lead to it or not.
            self.told(self.MACHINE, self.REACH[:at] + self.REACH[at + 1 :], False)
        self.told(self.MACHINE, [], False)

    def test_each_condition_broken_alone(self):
        room = (ONE, 2, 0, (0,), (), ())
        self.told(room, [(0, 0)], False)
        self.told(room, [(1, 1)], False)
        self.told(room, [(0, 0), (1, 1)], True)
        plain = (ONE, 2, 0, (0,), (), (("plain", 0, "b", 1),))
        self.told(plain, [(0, 0), (1, 1)], False)
        self.told(plain, [(0, 0), (1, 1), (0, 1)], True)
        around = (ONE, 3, 1, (0,), (), (("close", 1, 0, "c", 2), ("open", 0, "a", 0, 1)))
        same = [(0, 0), (1, 1), (2, 2)]
        self.told(around, same, False)
        self.told(around, same + [(0, 2)], True)
        # What stands ahead of the open goes along.
        self.told(around, same + [(0, 2), (1, 0)], False)
        self.told(around, same + [(0, 2), (1, 0), (1, 2)], True)

    def test_a_first_room_with_a_last_one(self):
        machine = (ONE, 3, 0, (0, 1), (2,), ())
        same = [(0, 0), (1, 1), (2, 2)]
        self.told(machine, same, True)
        self.told(machine, same + [(2, 0), (0, 1)], True)
        self.told(machine, same + [(0, 2)], False)
        self.told(machine, same + [(1, 2)], False)
        self.told((ONE, 1, 0, (0,), (0,), ()), [(0, 0)], False)

    def test_pairs_more_than_needed_and_twice(self):
        self.told(self.MACHINE, self.REACH + [(2, 1)], True)
        self.told(self.MACHINE, self.REACH + [(3, 1)], False)
        self.told(self.MACHINE, self.REACH + [(3, 1), (3, 2)], True)
        self.told(self.MACHINE, self.REACH + [(2, 4), (2, 4)], True)
        self.told(self.MACHINE, self.REACH + [(4, 0), (4, 3)], True)
        self.told(self.MACHINE, self.REACH + self.REACH, True)

    def test_pairs_of_rooms_that_there_arent(self):
        # A reach is a list of pairs of rooms.
        for pair in ((5, 5), (0, 5), (5, 0), (-1, 2), (2, -1), (10**40, 1), (1, 10**40), (-(10**40), 2)):
            self.told(self.MACHINE, self.REACH + [pair], False)

    def test_all_lists_of_pairs_of_small_machines(self):
        pairs = [(p, q) for p in range(2) for q in range(2)]
        for seed in range(150):
            machine = some_machine(seed, (ONE, BARE)[seed % 2], rooms=2, marks=1 + seed % 2, share=2 + seed % 2)
            for bits in range(16):
                chosen = [pair for at, pair in enumerate(pairs) if bits >> at & 1]
                self.told(machine, chosen, plain_shows_none(machine, chosen))

    def test_some_lists_of_greater_machines(self):
        for seed in range(40):
            machine = some_machine(seed, ONE, rooms=3, share=4)
            machine = machine[:4] + (() if seed % 2 else (2,),) + machine[5:]
            pairs = sorted(plain_leasts(machine))
            self.told(machine, pairs, plain_shows_none(machine, pairs))
            for at in range(len(pairs)):
                fewer = pairs[:at] + pairs[at + 1 :]
                self.told(machine, fewer, plain_shows_none(machine, fewer))


if __name__ == "__main__":
    unittest.main()
