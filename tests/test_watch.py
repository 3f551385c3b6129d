import random
import unittest

from echohall.errors import NoLetter, NoStep, NotShut, TooLong
from echohall.leasts import least_between, least_word
from echohall.losses import shows_loss
from echohall.oneway import one_way
from echohall.put import again, in_row, met, turned, wrapped
from echohall.saidby import machine_for
from echohall.tellings import machine_by, telling
from echohall.walks import lets
from echohall.watch import Watch
from tests.helps import (
    BARE,
    ONE,
    TWO,
    WINDING,
    all_moves,
    all_words,
    kept,
    long_word,
    machine_of_400,
    machine_of_plains,
    one_way_machines,
    opens_left,
    plain_rest,
    plain_shows_loss,
    refused,
    some_machine,
    watch_of,
    word_key,
)

EVERY = {sheet: (sheet, 1, 1, (0,), (0,), tuple(all_moves(sheet, 1, 1))) for sheet in (ONE, BARE, TWO)}
EVEN = (ONE, 2, 0, (0,), (0,), (("plain", 0, "b", 1), ("plain", 1, "b", 0)))
# An open, perhaps plains, and the close that answers it.
PAIR = (ONE, 3, 1, (0,), (2,), (("close", 1, 0, "c", 2), ("open", 0, "a", 0, 1), ("plain", 1, "b", 1)))


class Watches(unittest.TestCase):
    def looked(self, machine, watch, letters, most):
        """All that points 30 and 31 say behind these letters, by rests of at most so many letters."""
        self.assertEqual(watch.heard(), list(letters))
        self.assertEqual(watch.deep(), opens_left(machine[0], letters))
        want = plain_rest(machine, letters, most)
        told = watch.rest()
        loss = watch.loss()
        if want is not None or told is None:
            self.assertEqual(told, want, letters)
        else:
            self.assertGreater(len(told), most)
        if told is None:
            self.assertTrue(shows_loss(machine, list(letters), loss))
            self.assertTrue(plain_shows_loss(machine, list(letters), loss))
        else:
            self.assertIsNone(loss)
            self.assertTrue(lets(machine, list(letters) + told))
        return told

    def test_by_hand(self):
        watch = Watch(PAIR)
        self.assertEqual((watch.heard(), watch.deep(), watch.rest()), ([], 0, ["a", "c"]))
        self.assertIsNone(watch.hear("a"))
        self.assertEqual((watch.heard(), watch.deep(), watch.rest()), (["a"], 1, ["c"]))
        watch.hear("b")
        self.assertEqual((watch.heard(), watch.deep(), watch.rest()), (["a", "b"], 1, ["c"]))
        watch.hear("c")
        self.assertEqual((watch.heard(), watch.deep(), watch.rest()), (["a", "b", "c"], 0, []))
        self.assertIsNone(watch.loss())
        watch.hear("b")
        self.assertEqual((watch.heard(), watch.deep(), watch.rest()), (["a", "b", "c", "b"], 0, None))
        self.assertIsNone(watch.back())
        self.assertEqual((watch.heard(), watch.deep(), watch.rest()), (["a", "b", "c"], 0, []))

    def test_behind_each_letter_held_against_short_words(self):
        for seed in range(36):
            sheet, rooms, marks, share = ((ONE, 3, 2, 5), (BARE, 3, 2, 4), (TWO, 2, 2, 6))[seed % 3]
            machine = some_machine(seed, sheet, rooms, marks, share)
            for letters in all_words(sheet, 4 if sheet == BARE else 3):
                if opens_left(sheet, letters) is not None:
                    watch = watch_of(machine, letters)
                    self.looked(machine, watch, letters, 5)

    def test_along_words_and_back_again(self):
        for seed in range(30):
            sheet = (ONE, BARE, TWO)[seed % 3]
            machine = some_machine(seed, sheet, 3, 2, 4 + seed % 3)
            dice = random.Random(seed)
            watch, letters, rests = Watch(machine), [], {}
            for _ in range(40):
                left = opens_left(sheet, letters)
                if letters and dice.randrange(3) == 0:
                    watch.back()
                    letters.pop()
                elif len(letters) < 7:
                    letters.append(dice.choice(sheet[0] + sheet[1] + (sheet[2] if left else ())))
                    watch.hear(letters[-1])
                if dice.randrange(3):
                    told = self.looked(machine, watch, letters, 4)
                    # What was taken back and heard again is as it was.
                    self.assertEqual(rests.setdefault(tuple(letters), told), told)

    def test_none_whatever_is_heard_then(self):
        seen = 0
        for seed in range(40):
            sheet = (ONE, BARE, TWO)[seed % 3]
            machine = some_machine(seed, sheet, 3, 1, 6)
            watch = Watch(machine)
            lost = False
            for letter in long_word(seed, sheet, 12):
                watch.hear(letter)
                if lost:
                    self.assertIsNone(watch.rest())
                    self.assertTrue(shows_loss(machine, watch.heard(), watch.loss()))
                    seen += 1
                lost = lost or watch.rest() is None
        self.assertGreater(seen, 60)

    def test_the_lesser_of_two_by_the_order_of_the_sheet(self):
        # From 0 on: m or dot, z .. down or up .. y; in the alphabet dot, down and up come first.
        def moved(*moves):
            return (TWO, 4, 2, (0,), (3,), tuple(sorted(moves)))

        machine = moved(("plain", 0, "dot", 3), ("plain", 0, "m", 3))
        self.assertEqual(Watch(machine).rest(), ["m"])
        pairs = [("open", 0, "up", 0, 1), ("close", 1, 0, "y", 3), ("open", 0, "z", 1, 2), ("close", 2, 1, "down", 3)]
        self.assertEqual(Watch(moved(*pairs)).rest(), ["z", "down"])
        both = [("open", 0, "up", 0, 1), ("close", 1, 0, "down", 3), ("close", 1, 0, "y", 3)]
        self.assertEqual(watch_of(moved(*both), ["up"]).rest(), ["y"])
        # Two ways behind an open: the close that is less leads to a greater word, which is as long.
        far = both[:1] + [("close", 1, 0, "y", 0), ("close", 1, 0, "down", 2)]
        far += [("plain", 0, "dot", 3), ("plain", 2, "m", 3)]
        self.assertEqual(watch_of(moved(*far), ["up"]).rest(), ["y", "dot"])
        # Fewer letters go first.
        far += [("close", 1, 0, "down", 3)]
        self.assertEqual(watch_of(moved(*far), ["up"]).rest(), ["down"])

    def test_two_words_of_one_length_that_are_cut_elsewhere(self):
        # Behind the open: b c a c, or a c c b, of four letters each; the latter is less.
        moves = [("plain", 1, "b", 2), ("close", 2, 0, "c", 3), ("open", 3, "a", 1, 4), ("close", 4, 1, "c", 5)]
        moves += [("open", 1, "a", 2, 4), ("close", 4, 2, "c", 6), ("close", 6, 0, "c", 7), ("plain", 7, "b", 5)]
        machine = (ONE, 8, 3, (0,), (5,), tuple(sorted(moves + [("open", 0, "a", 0, 1)])))
        self.assertEqual(watch_of(machine, ["a"]).rest(), ["a", "c", "c", "b"])
        self.assertEqual(watch_of(machine, ["a", "b"]).rest(), ["c", "a", "c"])

    def test_too_long(self):
        for more in range(2):
            machine = machine_of_400(more)
            word = least_word(machine, 500)[1]
            self.assertEqual(len(word), 400 + more)
            watch = Watch(machine)
            for most in (1, 399):
                self.assertEqual(refused(self, TooLong, watch.rest, most).size, 400 + more)
            self.assertEqual(watch.heard(), [])
            if more:
                self.assertEqual(refused(self, TooLong, watch.rest).size, 401)
            else:
                self.assertEqual(watch.rest(), word)
                self.assertEqual(watch.rest(most=400), word)
            # The same by a greater most, and by a lesser one again.
            self.assertEqual(watch.rest(401), word)
            self.assertEqual(refused(self, TooLong, watch.rest, most=300).size, 400 + more)
            for place in range(400 + more):
                watch.hear(word[place])
                left = 400 + more - place - 1
                if place % 40 == 5 or left < 10:
                    if left > 1:
                        self.assertEqual(refused(self, TooLong, watch.rest, left - 1).size, left)
                    if left:
                        self.assertEqual(watch.rest(left), word[place + 1 :])
            self.assertEqual(watch.rest(1), [])

    def test_sizes_of_very_many_letters(self):
        # From the room k to 0 a word of 2 ** (k + 1) - 2 letters.
        moves = []
        for k in range(1, 40):
            moves += [("open", k, "a", k, k - 1), ("close", 0, k, "c", k - 1)]
        machine = (ONE, 40, 40, (39,), (0,), tuple(sorted(moves)))
        watch = Watch(machine)
        self.assertEqual(refused(self, TooLong, watch.rest).size, 2**40 - 2)
        watch.hear("a")
        self.assertEqual(refused(self, TooLong, watch.rest).size, 2**40 - 3)
        self.assertIsNone(watch.loss())
        for _ in range(38):
            watch.hear("a")
        self.assertEqual(watch.deep(), 39)
        self.assertEqual(refused(self, TooLong, watch.rest).size, 2**40 - 2 - 39)
        watch.hear("c")
        self.assertEqual(refused(self, TooLong, watch.rest).size, 2**40 - 2 - 40)
        # One open more, and there is none.
        watch.back()
        watch.hear("a")
        self.assertIsNone(watch.rest())
        self.assertTrue(shows_loss(machine, watch.heard(), watch.loss()))

    def test_refused_rests_change_nothing(self):
        watch = watch_of(PAIR, ["a"])
        self.assertEqual(watch.rest(1), ["c"])
        chain = Watch(machine_of_plains(ONE, [9], None))
        self.assertEqual(refused(self, TooLong, chain.rest, 8).size, 9)
        self.assertEqual(chain.rest(9), ["b"] * 9)
        self.assertEqual(chain.rest(), ["b"] * 9)
        for left in range(8, -1, -1):
            chain.hear("b")
            self.assertEqual(chain.rest(max(left, 1)), ["b"] * left)

    def test_no_letter_and_not_shut(self):
        watch = watch_of(PAIR, ["a", "b"])
        for wrong in ("x", "", "A", "ab", "-", "a "):
            self.assertEqual(refused(self, NoLetter, watch.hear, wrong).place, 2)
            self.assertEqual((watch.heard(), watch.deep(), watch.rest()), (["a", "b"], 1, ["c"]))
        watch.hear("c")
        self.assertEqual(refused(self, NotShut, watch.hear, "c").place, 3)
        self.assertEqual(refused(self, NoLetter, watch.hear, "d").place, 3)
        self.assertEqual((watch.heard(), watch.deep(), watch.rest()), (["a", "b", "c"], 0, []))
        watch.hear("b")
        self.assertEqual(refused(self, NotShut, watch.hear, "c").place, 4)
        fresh = Watch(PAIR)
        self.assertEqual(refused(self, NotShut, fresh.hear, "c").place, 0)
        self.assertEqual(refused(self, NoLetter, fresh.hear, "x").place, 0)
        self.assertEqual(fresh.heard(), [])

    def test_back_to_the_beginning_and_beyond_it(self):
        watch = Watch(PAIR)
        refused(self, NoStep, watch.back)
        self.assertEqual((watch.heard(), watch.rest()), ([], ["a", "c"]))
        for letter in ("a", "a", "c", "b"):
            watch.hear(letter)
        self.assertEqual(watch.deep(), 1)
        depths = []
        for _ in range(4):
            watch.back()
            depths.append(watch.deep())
        self.assertEqual(depths, [1, 2, 1, 0])
        refused(self, NoStep, watch.back)
        refused(self, NoStep, watch.back)
        self.assertEqual((watch.heard(), watch.deep(), watch.rest()), ([], 0, ["a", "c"]))
        watch.hear("a")
        self.assertEqual(watch.rest(), ["c"])

    def test_back_over_a_close_and_elsewhere(self):
        # The levels that come again are those that were, and not those heard in between.
        machine = EVERY[TWO][:1] + (3, 2, (0,), (2,)) + (
            (
                ("close", 1, 0, "y", 2),
                ("close", 1, 1, "down", 2),
                ("open", 0, "up", 1, 1),
                ("open", 0, "z", 0, 1),
            ),
        )
        watch = watch_of(machine, ["z"])
        self.assertEqual(watch.rest(), ["y"])
        watch.back()
        watch.hear("up")
        self.assertEqual(watch.rest(), ["down"])
        watch.hear("down")
        self.assertEqual(watch.rest(), [])
        watch.back()
        self.assertEqual(watch.rest(), ["down"])
        watch.hear("y")
        self.assertIsNone(watch.rest())
        watch.back()
        watch.back()
        watch.hear("z")
        self.assertEqual(watch.rest(), ["y"])

    def test_two_hundred_opens(self):
        watch = Watch(EVERY[ONE])
        for many in range(1, 201):
            watch.hear("a")
            self.assertEqual(watch.rest(), ["c"] * many)
        self.assertEqual((watch.deep(), len(watch.heard())), (200, 200))
        self.assertIsNone(watch.loss())
        for many in range(199, -1, -1):
            watch.back()
            if many % 20 == 0:
                self.assertEqual(watch.rest(), ["c"] * many)
        for machine in (some_machine(3, ONE, 6, 6, 3), some_machine(4, ONE, 6, 6, 8), WINDING):
            watch = watch_of(machine, ["a"] * 200)
            told = watch.rest(5000)
            self.assertIs(watch.loss() is None, told is not None)
            if told is None:
                self.assertTrue(shows_loss(machine, ["a"] * 200, watch.loss()))
            else:
                self.assertTrue(lets(machine, ["a"] * 200 + told))

    def test_two_hundred_letters(self):
        for seed in range(6):
            sheet = (ONE, BARE, TWO)[seed % 3]
            machine = some_machine(seed, sheet, 5, 3, 3)
            watch = Watch(machine)
            letters = long_word(seed, sheet, 400)[:200]
            for letter in letters:
                watch.hear(letter)
                told = watch.rest()
                if told is not None:
                    self.assertTrue(lets(machine, watch.heard() + told))
                else:
                    self.assertTrue(shows_loss(machine, watch.heard(), watch.loss()))
            self.assertEqual(watch.heard(), letters)

    def test_no_last_room_and_no_moves(self):
        for machine in (EVERY[ONE][:4] + ((),) + EVERY[ONE][5:], (ONE, 2, 0, (0,), (1,), ())):
            for letters in all_words(ONE, 3):
                if opens_left(ONE, letters) is not None:
                    watch = watch_of(machine, letters)
                    self.assertIsNone(watch.rest())
                    self.assertTrue(shows_loss(machine, letters, watch.loss()))
        empty = Watch((ONE, 1, 0, (0,), (0,), ()))
        self.assertEqual((empty.rest(), empty.loss()), ([], None))
        empty.hear("a")
        self.assertIsNone(empty.rest())
        self.assertTrue(shows_loss((ONE, 1, 0, (0,), (0,), ()), ["a"], empty.loss()))

    def test_ahead_of_all_letters_the_least_word(self):
        for seed in range(30):
            machine = some_machine(seed, (ONE, BARE, TWO)[seed % 3], 4, 2, 6)
            kind, word = least_word(machine)
            self.assertEqual(Watch(machine).rest(), word if kind == "word" else None)

    def test_least_words_between_rooms_are_rests(self):
        between = least_between(WINDING, 2000)
        for (p, q), word in list(between.items())[::5]:
            machine = WINDING[:3] + ((p,), (q,)) + WINDING[5:]
            self.assertEqual(Watch(machine).rest(2000), word)
            for place in range(0, len(word), 37):
                told = watch_of(machine, word[:place]).rest(2000)
                self.assertEqual(told, word[place:])

    def test_two_watches(self):
        one, other, third = Watch(PAIR), Watch(PAIR), Watch(EVEN)
        one.hear("a")
        third.hear("b")
        self.assertEqual((one.heard(), other.heard(), third.heard()), (["a"], [], ["b"]))
        self.assertEqual((one.rest(), other.rest(), third.rest()), (["c"], ["a", "c"], ["b"]))
        one.back()
        self.assertEqual((one.deep(), third.deep()), (0, 0))
        self.assertEqual(third.heard(), ["b"])

    def test_greater_machines(self):
        widest = max([machine for machine in one_way_machines() if machine[0] == ONE], key=lambda machine: machine[1])
        machines = [
            met(some_machine(5, ONE, 4, 2, 3), some_machine(6, ONE, 4, 2, 3)),
            again(in_row(PAIR, wrapped(EVEN, "a", "c"))),
            turned(widest),
            one_way(met(again(PAIR), turned(widest)), 60)[0],
            machine_by(telling(machine_of_plains(ONE, [11], None))),
            machine_for(ONE, ("level", ("not", ("is", "b")), ("ahead", ("is", "c"))), 60),
        ]
        for machine in machines:
            self.assertGreater(max(machine[1], machine[2]), 6)
            for letters in all_words(ONE, 3):
                if opens_left(ONE, letters) is not None:
                    self.looked(machine, watch_of(machine, letters), letters, 3)

    def test_what_is_told_is_the_askers_own(self):
        watch = watch_of(PAIR, ["a"])
        watch.heard().append("c")
        watch.rest().append("c")
        watch.rest().clear()
        self.assertEqual((watch.heard(), watch.rest()), (["a"], ["c"]))
        lost = watch_of(PAIR, ["b"])
        before = lost.loss()
        told = lost.loss()
        told[0].clear()
        told[1][0].append((0, 0))
        told[1].append([])
        self.assertEqual(lost.loss(), before)
        self.assertTrue(shows_loss(PAIR, ["b"], lost.loss()))
        again_told = [kept(self, Watch, PAIR).rest() for _ in range(2)]
        again_told[0].append("b")
        self.assertEqual(again_told[1], ["a", "c"])

    def test_lesser_rests_of_all_short_ones(self):
        # Held against all rests that there are, of one size, and not only led on letter by letter.
        for seed in range(20):
            machine = some_machine(seed, TWO, 3, 2, 5)
            for letters in (["z"], ["up", "m"], ["z", "up"], ["z", "up", "down"]):
                told = watch_of(machine, letters).rest()
                if told is not None and len(told) <= 3:
                    rests = [rest for rest in all_words(TWO, len(told)) if opens_left(TWO, letters + rest) == 0]
                    good = [rest for rest in rests if lets(machine, letters + rest)]
                    self.assertEqual(min(good, key=lambda rest: word_key(TWO, rest)), told)


if __name__ == "__main__":
    unittest.main()
