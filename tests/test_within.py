import unittest

from echohall.errors import NoSheet, TooLong, TooMany
from echohall.put import joined, met, turned
from echohall.within import alike, shows_within, within
from tests.helps import (
    BARE,
    ONE,
    TWO,
    WINDING,
    all_moves,
    in_order,
    kept,
    machine_of_400,
    machine_of_plains,
    plain_lets,
    plain_stretch,
    refused,
    shut_words,
    some_machine,
)

ANY = machine_of_plains(ONE, [], 0)
SOME = machine_of_plains(ONE, [], 1)
NEVER = (ONE, 1, 0, (0,), (), ())
PAIR = (ONE, 3, 1, (0,), (2,), (("close", 1, 0, "c", 2), ("open", 0, "a", 0, 1), ("plain", 1, "b", 1)))
EVERY = (ONE, 1, 1, (0,), (0,), tuple(all_moves(ONE, 1, 1)))


def plain_triples(one, other, words):
    """The triples of all these words."""
    found = set()
    for word in words:
        stretch = plain_stretch(other, word)
        found |= {(p, q, stretch) for p, q in plain_stretch(one, word)}
    return found


def plain_shows_within(one, other, span):
    """Point 16, word for word."""
    mine, yours = one[5], other[5]
    for p, q, pairs in span:
        if p not in range(one[1]) or q not in range(one[1]):
            return False
        if any(x not in range(other[1]) or y not in range(other[1]) for x, y in pairs):
            return False
        if list(pairs) != sorted(set(pairs)):
            return False
        if p in one[3] and q in one[4] and not any(x in other[3] and y in other[4] for x, y in pairs):
            return False
    wanted = [(p, p, tuple((x, x) for x in range(other[1]))) for p in range(one[1])]
    for p, q, pairs in span:
        for move in mine:
            if move[0] == "plain" and move[1] == q:
                led = {(x, step[3]) for x, y in pairs for step in yours if step[:3] == ("plain", y, move[2])}
                wanted.append((p, move[3], tuple(sorted(led))))
        for r, s, inner in span:
            for begin in [move for move in mine if move[0] == "open" and (move[1], move[4]) == (q, r)]:
                for end in [move for move in mine if move[0] == "close" and move[1:3] == (s, begin[3])]:
                    led = set()
                    for x, y in pairs:
                        for z, v in inner:
                            laid = {step[3] for step in yours if step[:3] == ("open", y, begin[2]) and step[4] == z}
                            for step in yours:
                                if step[0] == "close" and (step[1], step[3]) == (v, end[3]) and step[2] in laid:
                                    led.add((x, step[4]))
                    wanted.append((p, end[4], tuple(sorted(led))))
    return all(triple in span for triple in wanted)


def told_or_none(function, *handed):
    try:
        return function(*handed)
    except TooMany:
        return None


class Within(unittest.TestCase):
    def test_either_way_both_and_none(self):
        self.assertEqual(within(SOME, ANY)[0], "within")
        self.assertEqual(within(ANY, SOME), ("word", []))
        self.assertEqual(within(PAIR, EVERY)[0], "within")
        self.assertEqual(within(EVERY, PAIR), ("word", []))
        self.assertEqual(within(PAIR, ANY), ("word", ["a", "c"]))
        self.assertEqual(within(ANY, PAIR), ("word", []))
        for machine in (ANY, SOME, NEVER, PAIR, EVERY):
            kind, span = kept(self, within, machine, machine)
            self.assertEqual(kind, "within")
            self.assertIs(shows_within(machine, machine, span), True)
            self.assertTrue(plain_shows_within(machine, machine, span))

    def test_no_last_room_and_no_moves(self):
        self.assertEqual(within(NEVER, PAIR)[0], "within")
        self.assertEqual(within(PAIR, NEVER), ("word", ["a", "c"]))
        self.assertEqual(within(NEVER, NEVER), ("within", [(0, 0, ((0, 0),))]))
        empty = (ONE, 2, 0, (0,), (0,), ())
        self.assertEqual(within(empty, SOME), ("word", []))
        self.assertEqual(sorted(within(empty, ANY)[1]), [(0, 0, ((0, 0),)), (1, 1, ((0, 0),))])

    def test_the_least_word_by_the_order_of_the_sheet(self):
        moves = (
            ("close", 1, 0, "down", 2),
            ("close", 1, 0, "y", 2),
            ("open", 0, "up", 0, 1),
            ("open", 0, "z", 0, 1),
            ("plain", 0, "dot", 3),
            ("plain", 3, "dot", 2),
            ("plain", 3, "m", 2),
        )
        one = (TWO, 4, 1, (0,), (2,), moves)
        for at, word in ((None, ["z", "y"]), (3, ["z", "y"]), (2, ["up", "y"])):
            other = (TWO, 4, 1, (0,), (2,) if at else (), moves[:at] + moves[at + 1 :] if at else moves)
            self.assertEqual(within(one, other, 60), ("word", word))
        other = (TWO, 4, 1, (0,), (2,), moves[:1] + moves[2:6])
        self.assertEqual(within(one, other, 60), ("word", ["z", "y"]))
        other = (TWO, 4, 1, (0,), (2,), moves[:6])
        self.assertEqual(within(one, other, 60), ("word", ["dot", "m"]))
        self.assertEqual(within(other, one, 60)[0], "within")

    def test_held_against_all_short_words(self):
        many = {"within": 0, "word": 0, None: 0}
        for sheet, most in ((ONE, 6), (BARE, 8), (TWO, 3)):
            words = in_order(sheet, shut_words(sheet, most))
            for seed in range(50):
                one = some_machine(seed, sheet, rooms=2, marks=1, share=2 + seed % 3)
                other = some_machine(seed + 50, sheet, rooms=2, marks=1, share=1 + seed % 3)
                told = told_or_none(within, one, other, 60)
                many[told and told[0]] += 1
                wrong = [word for word in words if plain_lets(one, word) and not plain_lets(other, word)]
                if told is None:
                    continue
                if told[0] == "within":
                    self.assertEqual(wrong, [])
                    self.assertTrue(plain_shows_within(one, other, told[1]))
                    self.assertIs(shows_within(one, other, told[1]), True)
                elif wrong:
                    self.assertEqual(told[1], wrong[0])
                else:
                    self.assertGreater(len(told[1]), most)
        self.assertGreater(min(many["within"], many["word"]), 20)

    def test_a_limit_of_just_as_many_triples_and_one_less(self):
        for seed in range(40):
            sheet = (ONE, BARE)[seed % 2]
            one = some_machine(seed, sheet, rooms=2, marks=1, share=3)
            other = some_machine(seed + 7, sheet, rooms=2, marks=1, share=3)
            many = len(plain_triples(one, other, shut_words(sheet, 8)))
            told = kept(self, within, one, other, many)
            self.assertEqual(within(one, other, limit=many), told)
            if many > 1:
                refused(self, TooMany, within, one, other, many - 1)
                refused(self, TooMany, within, one, other, limit=many - 1)

    def test_without_a_limit_it_is_16(self):
        # A row of plains of n rooms has a triple for each two rooms of which one is behind the other.
        for rooms, many in ((5, 15), (6, 21)):
            one = machine_of_plains(ONE, [rooms - 1], None)
            self.assertEqual(len(within(one, EVERY, many)[1]), many)
            refused(self, TooMany, within, one, EVERY, many - 1)
        self.assertEqual(within(machine_of_plains(ONE, [4], None), EVERY)[0], "within")
        refused(self, TooMany, within, machine_of_plains(ONE, [5], None), EVERY)
        one = (ONE, 6, 0, (0,), (), machine_of_plains(ONE, [4], None)[5])
        self.assertEqual(len(within(one, EVERY)[1]), 16)
        refused(self, TooMany, within, (ONE, 7) + one[2:], EVERY)

    def test_triples_of_all_rooms_count(self):
        # No first room leads to those that have the moves.
        one = (ONE, 3, 0, (0,), (0,), (("plain", 1, "b", 2),))
        refused(self, TooMany, within, one, EVERY, 3)
        self.assertEqual(len(within(one, EVERY, 4)[1]), 4)

    def test_most(self):
        one, other = machine_of_plains(ONE, [1, 3], None), machine_of_plains(ONE, [1], None)
        self.assertEqual(within(one, other, 60, 3), ("word", ["b"] * 3))
        self.assertEqual(within(one, other, most=3, limit=60), ("word", ["b"] * 3))
        self.assertEqual(refused(self, TooLong, within, one, other, 60, 2).size, 3)
        self.assertEqual(refused(self, TooLong, within, one, other, limit=60, most=1).size, 3)
        # Where it is within, nothing is too long.
        self.assertEqual(within(other, one, 60, 1)[0], "within")

    def test_long_words(self):
        machine = WINDING[:3] + ((4,), (2,)) + WINDING[5:]
        nothing = (ONE, 1, 1, (0,), (), tuple(all_moves(ONE, 1, 1)))
        kind, word = within(machine, nothing, 60)
        self.assertEqual((kind, len(word)), ("word", 292))
        self.assertTrue(plain_lets(machine, word))
        self.assertEqual(refused(self, TooLong, within, WINDING, nothing, 60).size, 1002)

    def test_without_a_most_it_is_400(self):
        nothing = (ONE, 1, 1, (0,), (), tuple(all_moves(ONE, 1, 1)))
        for function in (within, alike):
            kind, word = function(machine_of_400(0), nothing, 60)
            self.assertEqual((kind, len(word)), ("word", 400))
            self.assertTrue(plain_lets(machine_of_400(0), word))
            self.assertEqual(refused(self, TooLong, function, machine_of_400(1), nothing, 60).size, 401)

    def test_too_many_goes_ahead_of_too_long(self):
        one = machine_of_plains(ONE, [5], None)
        refused(self, TooMany, within, one, NEVER, 20, 1)
        refused(self, TooMany, alike, one, NEVER, 20, 1)
        self.assertEqual(refused(self, TooLong, within, one, NEVER, 36, 1).size, 5)

    def test_two_sheets_go_ahead_of_all(self):
        other = (TWO,) + NEVER[1:]
        long = machine_of_plains(ONE, [5], None)
        for function in (within, alike):
            refused(self, NoSheet, function, long, other, 1, 1)
            refused(self, NoSheet, function, other, long, 1, 1)
            refused(self, NoSheet, function, NEVER, (BARE,) + NEVER[1:])

    def test_machines_put_together(self):
        one, other = some_machine(2, ONE, rooms=2, marks=1), some_machine(5, ONE, rooms=2, marks=1)
        for part in (one, other):
            self.assertEqual(within(part, joined(one, other), 60)[0], "within")
            self.assertEqual(within(met(one, other), part, 60)[0], "within")
        self.assertEqual(within(EVERY, turned(EVERY), 60), ("word", []))

    def test_what_is_told_is_the_askers_own(self):
        within(SOME, ANY)[1].clear()
        self.assertTrue(shows_within(SOME, ANY, within(SOME, ANY)[1]))
        within(PAIR, ANY)[1].append("b")
        self.assertEqual(within(PAIR, ANY), ("word", ["a", "c"]))


class Alike(unittest.TestCase):
    def test_ordinary(self):
        other = (ONE, 2, 1, (0, 1), (0,), (("plain", 0, "b", 0), ("plain", 1, "b", 0)))
        kind, here, there = kept(self, alike, ANY, other)
        self.assertEqual(kind, "alike")
        self.assertTrue(plain_shows_within(ANY, other, here))
        self.assertTrue(plain_shows_within(other, ANY, there))
        self.assertIs(shows_within(ANY, other, here), True)
        self.assertIs(shows_within(other, ANY, there), True)
        self.assertEqual(alike(ANY, SOME), ("word", []))
        self.assertEqual(alike(SOME, ANY), ("word", []))
        self.assertEqual(alike(EVERY, ANY), ("word", ["a", "c"]))
        self.assertEqual(alike(ANY, EVERY), ("word", ["a", "c"]))

    def test_a_machine_and_itself(self):
        for machine in (ANY, SOME, NEVER, PAIR, EVERY):
            kind, here, there = alike(machine, machine)
            self.assertEqual(kind, "alike")
            self.assertEqual(here, there)

    def test_no_last_room_and_no_moves(self):
        self.assertEqual(alike(NEVER, (ONE, 2, 0, (1,), (0,), ()))[0], "alike")
        self.assertEqual(alike(NEVER, (ONE, 2, 0, (1,), (1,), ())), ("word", []))

    def test_the_least_of_both_ways(self):
        # Of the one 2 letters are wanting in the other, of the other 1 letter in the one.
        one, other = machine_of_plains(ONE, [0, 2], None), machine_of_plains(ONE, [0, 1], None)
        self.assertEqual(alike(one, other), ("word", ["b"]))
        self.assertEqual(alike(other, one), ("word", ["b"]))
        # Of one length the lesser one counts, whichever machine lets it by.
        mm = (TWO, 3, 0, (0,), (2,), (("plain", 0, "m", 1), ("plain", 1, "m", 2)))
        zy = (TWO, 3, 1, (0,), (2,), (("close", 1, 0, "y", 2), ("open", 0, "z", 0, 1)))
        self.assertEqual(alike(mm, zy), ("word", ["z", "y"]))
        self.assertEqual(alike(zy, mm), ("word", ["z", "y"]))

    def test_held_against_all_short_words(self):
        for sheet, most in ((ONE, 6), (BARE, 8), (TWO, 3)):
            words = in_order(sheet, shut_words(sheet, most))
            for seed in range(40):
                one = some_machine(seed, sheet, rooms=2, marks=1, share=1 + seed % 3)
                other = some_machine(seed + 50, sheet, rooms=2, marks=1, share=1 + seed % 3)
                told = told_or_none(alike, one, other, 60)
                if told is None:
                    continue
                wrong = [word for word in words if plain_lets(one, word) != plain_lets(other, word)]
                if told[0] == "alike":
                    self.assertEqual(wrong, [])
                    self.assertTrue(plain_shows_within(one, other, told[1]))
                    self.assertTrue(plain_shows_within(other, one, told[2]))
                elif wrong:
                    self.assertEqual(told[1], wrong[0])
                else:
                    self.assertGreater(len(told[1]), most)

    def test_too_many_where_either_is_refused(self):
        one, other = machine_of_plains(ONE, [3], None), (ONE, 4, 0, (0,), (), ())
        few, many = 60, 0
        for limit in range(1, 61):
            both = [told_or_none(within, one, other, limit), told_or_none(within, other, one, limit)]
            if None in both:
                refused(self, TooMany, alike, one, other, limit)
                refused(self, TooMany, alike, other, one, limit=limit)
                many = max(many, limit)
            else:
                self.assertEqual(alike(one, other, limit), ("word", ["b"] * 3))
                self.assertEqual(alike(other, one, limit=limit), ("word", ["b"] * 3))
                few = min(few, limit)
        self.assertEqual(few, many + 1)

    def test_without_a_limit_it_is_16(self):
        one = (ONE, 6, 0, (0,), (4,), machine_of_plains(ONE, [4], None)[5])
        self.assertEqual(len(within(one, EVERY, 60)[1]), 16)
        self.assertEqual(alike(one, EVERY), ("word", []))
        refused(self, TooMany, alike, (ONE, 7) + one[2:], EVERY)
        refused(self, TooMany, alike, EVERY, (ONE, 7) + one[2:])
        refused(self, TooMany, alike, machine_of_plains(ONE, [5], None), EVERY)
        refused(self, TooMany, alike, EVERY, machine_of_plains(ONE, [5], None))

    def test_most(self):
        one, other = machine_of_plains(ONE, [0, 2, 3], None), machine_of_plains(ONE, [0, 1, 2], None)
        self.assertEqual(alike(one, other, 60, 1), ("word", ["b"]))
        self.assertEqual(alike(other, one, 60, most=1), ("word", ["b"]))
        one = machine_of_plains(ONE, [0, 3], None)
        self.assertEqual(refused(self, TooLong, alike, one, machine_of_plains(ONE, [0], None), 60, 2).size, 3)
        self.assertEqual(alike(one, machine_of_plains(ONE, [0], None), limit=60, most=3), ("word", ["b"] * 3))
        # Both ways too long: the lesser size counts.
        other = machine_of_plains(ONE, [0, 4], None)
        self.assertEqual(refused(self, TooLong, alike, one, other, 60, 2).size, 3)
        self.assertEqual(refused(self, TooLong, alike, other, one, 60, 2).size, 3)
        # Both ways too long by as many letters.
        pair = (ONE, 3, 1, (0,), (2,), (("close", 1, 0, "c", 2), ("open", 0, "a", 0, 1)))
        self.assertEqual(refused(self, TooLong, alike, machine_of_plains(ONE, [2], None), pair, 60, 1).size, 2)
        self.assertEqual(alike(machine_of_plains(ONE, [2], None), pair, 60, 2), ("word", ["a", "c"]))

    def test_what_is_told_is_the_askers_own(self):
        told = alike(SOME, SOME)
        told[1].append(0)
        self.assertNotIn(0, told[2])
        told[2].clear()
        again = alike(SOME, SOME)
        self.assertTrue(shows_within(SOME, SOME, again[1]) and shows_within(SOME, SOME, again[2]))
        alike(EVERY, ANY)[1].append("b")
        self.assertEqual(alike(EVERY, ANY), ("word", ["a", "c"]))


class ShowsWithin(unittest.TestCase):
    ONE_SIDE = (ONE, 2, 0, (0,), (1,), (("plain", 0, "b", 1),))
    OTHER_SIDE = (ONE, 3, 0, (0,), (1, 2), (("plain", 0, "b", 1), ("plain", 1, "b", 2)))
    SAME = ((0, 0), (1, 1), (2, 2))
    SPAN = [(0, 0, SAME), (1, 1, SAME), (0, 1, ((0, 1), (1, 2)))]

    def told(self, one, other, span, good):
        self.assertIs(kept(self, shows_within, one, other, span), good)
        self.assertEqual(plain_shows_within(one, other, span), good)

    def test_each_triple_left_out_alone(self):
        one, other = self.ONE_SIDE, self.OTHER_SIDE
        self.told(one, other, self.SPAN, True)
        self.told(one, other, self.SPAN[::-1], True)
        self.told(one, other, self.SPAN + self.SPAN, True)
        for at in range(3):
            self.told(one, other, self.SPAN[:at] + self.SPAN[at + 1 :], False)
        self.told(one, other, [], False)

    def test_pairs_more_and_fewer(self):
        one, other = self.ONE_SIDE, self.OTHER_SIDE
        for pairs in (((0, 1),), ((1, 2),), (), ((0, 1), (0, 2), (1, 2)), ((0, 1), (1, 2), (2, 2))):
            self.told(one, other, self.SPAN[:2] + [(0, 1, pairs)], False)
        self.told(one, other, [(0, 0, self.SAME[:2])] + self.SPAN[1:], False)
        self.told(one, other, [(0, 0, self.SAME + ((2, 3),))] + self.SPAN[1:], False)

    def test_triples_more(self):
        one, other = self.ONE_SIDE, self.OTHER_SIDE
        self.told(one, other, self.SPAN + [(1, 1, ())], True)
        self.told(one, other, self.SPAN + [(1, 0, ((0, 0),))], False)
        self.told(one, other, self.SPAN + [(1, 0, ((0, 0),)), (1, 1, ((0, 1),))], True)
        self.told(one, other, self.SPAN + [(0, 1, ((0, 2),))], True)
        # In each triple of a first and a last room the other must let by, too, also in those that no word has.
        for pairs in ((), ((1, 1),), ((0, 0),), ((1, 0), (1, 2), (2, 2))):
            self.told(one, other, self.SPAN + [(0, 1, pairs)], False)

    def test_a_word_that_the_other_doesnt_let_by(self):
        one, other = self.ONE_SIDE, self.OTHER_SIDE[:4] + ((2,),) + self.OTHER_SIDE[5:]
        self.told(one, other, self.SPAN, False)
        self.told(one[:4] + ((),) + one[5:], other, self.SPAN, True)
        self.told(one[:3] + ((1,), (0,)) + one[5:], other, self.SPAN, True)

    def test_rooms_that_there_arent(self):
        one, other = self.ONE_SIDE, self.OTHER_SIDE
        for wrong in (2, -1, 10**40, -(10**40)):
            # From 1 no move leads on, so nothing but the room is wrong with the first.
            for triple in ((wrong, 1, ((0, 1),)), (1, wrong, ((0, 1),)), (wrong, wrong, self.SAME)):
                self.told(one, other, self.SPAN + [triple], False)
        for wrong in (3, -1, 10**40, -(10**40)):
            for pair in ((wrong, 1), (1, wrong)):
                self.told(one, other, self.SPAN + [(1, 1, (pair,))], False)
        self.told(one, other, self.SPAN + [(1, 1, ((2, 2),))], True)

    def test_tuples_that_arent_rising(self):
        one, other = self.ONE_SIDE, self.OTHER_SIDE
        self.told(one, other, self.SPAN + [(0, 1, ((0, 1), (1, 0)))], True)
        for pairs in (((1, 0), (0, 1)), ((0, 1), (0, 1)), ((0, 2), (0, 1))):
            self.told(one, other, self.SPAN + [(0, 1, pairs)], False)
        self.told(one, other, self.SPAN[:2] + [(0, 1, ((1, 2), (0, 1)))], False)
        self.told(one, other, [(0, 0, self.SAME[::-1])] + self.SPAN[1:], False)

    def test_opens_and_closes(self):
        one = (ONE, 3, 1, (0,), (2,), (("close", 1, 0, "c", 2), ("open", 0, "a", 0, 1)))
        moves = (("close", 1, 0, "c", 0), ("close", 1, 1, "c", 1), ("open", 0, "a", 0, 1))
        other = (ONE, 2, 2, (0,), (0,), moves)
        same = ((0, 0), (1, 1))
        span = [(p, p, same) for p in range(3)]
        self.told(one, other, span, False)
        self.told(one, other, span + [(0, 2, ((0, 0),))], True)
        # By the mark 1 it would lead to 1, but no open lays this one.
        self.told(one, other, span + [(0, 2, ((0, 0), (0, 1)))], False)
        self.told(one, other, span + [(0, 2, ((0, 0),)), (1, 1, ())], False)
        self.told(one, other[:4] + ((1,),) + other[5:], span + [(0, 2, ((0, 0),))], False)

    def test_what_is_told_with_any_one_triple_put_otherwise(self):
        for seed in range(30):
            sheet = (ONE, BARE)[seed % 2]
            one = some_machine(seed, sheet, rooms=2, marks=1, share=3)
            other = some_machine(seed + 9, sheet, rooms=2, marks=1, share=2)
            told = told_or_none(within, one, other, 40)
            if told is None or told[0] != "within":
                continue
            span = told[1]
            for at, (p, q, pairs) in enumerate(span):
                self.told(one, other, span[:at] + span[at + 1 :], False)
                for wrong in ((p, q, pairs[1:]), (p, q, ((0, 0), (0, 1), (1, 0), (1, 1))), (1 - p, q, pairs)):
                    for changed in (span[:at] + [wrong] + span[at + 1 :], span + [wrong]):
                        self.told(one, other, changed, plain_shows_within(one, other, changed))

    def test_two_sheets(self):
        refused(self, NoSheet, shows_within, NEVER, (TWO,) + NEVER[1:], [])
        refused(self, NoSheet, shows_within, (BARE,) + NEVER[1:], NEVER, [(9, 9, ())])


if __name__ == "__main__":
    unittest.main()
