"""The whole: what one function tells is handed to the others, and all of them agree."""

import copy
import random
import unittest

from echohall.counts import how_many, kinds_counted, within_depth
from echohall.cuts import are_cuts, cut_of, cuts_of
from echohall.desk import Desk
from echohall.errands import machine_of, run_of
from echohall.errors import NoSheet, TooLong, TooMany
from echohall.great import length_of, written
from echohall.judged import kind_by, lets_great
from echohall.leasts import least_between, least_word, shows_none
from echohall.looks import is_walk, shows_bar
from echohall.losses import shows_loss
from echohall.machines import is_machine, is_one_way
from echohall.nests import boughs, word_by
from echohall.numbers import number_of, word_of
from echohall.oneway import one_way
from echohall.partings import is_parting, parting
from echohall.put import again, in_row, joined, met, turned, wrapped
from echohall.rules import keeps, shows_keeps
from echohall.saidby import machine_for
from echohall.sayings import truths
from echohall.tellings import is_telling, kind_of, machine_by, telling
from echohall.texts import read_machine, read_saying, read_word, show_machine, show_saying, show_word
from echohall.walks import lets, walk
from echohall.watch import Watch
from echohall.within import alike, shows_within, within
from tests.books import CALLER, CHOOSER, some_book, words_over
from tests.helps import (
    BARE,
    ONE,
    TWO,
    all_moves,
    kept,
    long_word,
    machine_of_plains,
    one_way_machines,
    plain_lets,
    refused,
    shut_words,
    some_great,
    some_machine,
    watch_of,
)
from tests.said import plain_truth, some_saying

SIZES = {ONE: 5, BARE: 6, TWO: 3}
PAIR = (ONE, 3, 1, (0,), (2,), (("close", 1, 0, "c", 2), ("open", 0, "a", 0, 1), ("plain", 1, "b", 1)))
EVEN = (ONE, 2, 0, (0,), (0,), (("plain", 0, "b", 1), ("plain", 1, "b", 0)))


def small_machines():
    """Machines of which all can be told by limits of 60."""
    found = []
    for seed in range(90):
        sheet = (ONE, BARE, TWO)[seed % 3]
        machine = some_machine(seed, sheet, 2, 1 + seed % 2, 2 + seed % 3)
        try:
            telling(machine, 60)
            one_way(machine, 60)
            found.append(machine)
        except TooMany:
            continue
    return found


class OneVerdict(unittest.TestCase):
    def all_verdicts(self, machine, told, word):
        """By each way whether a machine lets a word by."""
        made = one_way(machine, 60)[0]
        return {
            "lets": lets(machine, word),
            "walk": walk(machine, word)[0] == "walk",
            "one way": lets(made, word),
            "turned": not lets(turned(made), word),
            "turned twice": lets(turned(turned(made)), word),
            "telling": kind_of(told, word) in told[2],
            "machine of the telling": lets(machine_by(told), word),
            "kind of a great word": kind_by(told, ("word", tuple(word))) in told[2],
            "great word": lets_great(machine, ("row", (("word", tuple(word)),)), 60),
            "watch": watch_of(machine, word).rest() == [],
            "number": number_of(made, word) is not None,
            "joined": lets(joined(machine, machine), word),
            "met": lets(met(machine, made), word),
            "wrapped": lets(wrapped(machine, machine[0][0][0], machine[0][2][0]), around(machine[0], word)),
        }

    def test_each_way(self):
        seen = {True: 0, False: 0}
        for machine in small_machines()[:36]:
            told = telling(machine, 60)
            for word in shut_words(machine[0], SIZES[machine[0]])[::3]:
                verdict = plain_lets(machine, word)
                ways = self.all_verdicts(machine, told, word)
                self.assertEqual(set(ways.values()), {verdict}, (machine, word, ways))
                seen[verdict] += 1
        self.assertTrue(all(many > 80 for many in seen.values()), seen)

    def test_long_words(self):
        for seed, machine in enumerate(small_machines()[:10]):
            word = long_word(seed, machine[0], 60)
            told = telling(machine, 60)
            ways = self.all_verdicts(machine, told, word)
            self.assertEqual(len(set(ways.values())), 1, (machine, word, ways))

    def test_a_walk_or_a_bar_and_never_both(self):
        for machine in small_machines()[:20]:
            for word in shut_words(machine[0], 3):
                kind, paper = walk(machine, word)
                self.assertEqual(is_walk(machine, word, paper), kind == "walk")
                if kind == "bar":
                    self.assertTrue(shows_bar(machine, word, paper))

    def test_great_words(self):
        for seed, machine in enumerate(small_machines()[:30]):
            great = some_great(seed, machine[0])
            told = telling(machine, 60)
            if length_of(great) <= 400:
                word = written(great)
                self.assertEqual(lets_great(machine, great, 60), lets(machine, word))
                self.assertEqual(kind_by(told, great), kind_of(told, word))
                self.assertEqual(word_by(boughs(machine[0], word)), word)


def around(sheet, word):
    return [sheet[0][0]] + word + [sheet[2][0]]


class Told(unittest.TestCase):
    """What is told is handed on."""

    def test_tellings(self):
        seen = 0
        for machine in small_machines():
            told = telling(machine, 60)
            back = machine_by(told)
            self.assertTrue(is_one_way(back))
            self.assertEqual(telling(back, 60), told)
            try:
                self.assertEqual(alike(back, machine, 60)[0], "alike")
                seen += 1
            except TooMany:
                pass
            if len(told[1]) <= 8:
                self.assertTrue(is_telling(told))
            for kind, word in enumerate(told[1]):
                self.assertEqual(kind_of(told, list(word)), kind)
            for k in range(min(len(told[1]), 4)):
                for l in range(min(len(told[1]), 4)):
                    parted = parting(told, k, l)
                    self.assertEqual(parted is None, k == l)
                    if parted is not None:
                        self.assertTrue(is_parting(told, k, l, *parted))
        self.assertGreater(seen, 15)

    def test_alike_just_where_tellings_are_equal(self):
        seen = {True: 0, False: 0}
        machines = [machine for machine in small_machines() if machine[0] == ONE]
        for one in machines[:14]:
            for other in machines[:14]:
                try:
                    same = alike(one, other, 60)[0] == "alike"
                except TooMany:
                    continue
                self.assertEqual(same, telling(one, 60) == telling(other, 60))
                seen[same] += 1
        self.assertTrue(all(many > 10 for many in seen.values()), seen)

    def test_machines_of_more_rooms_and_marks(self):
        greater = [
            again(again(PAIR)),
            in_row(again(PAIR), again(in_row(EVEN, PAIR))),
            joined(met(some_machine(5, ONE, 4, 4, 3), some_machine(6, ONE, 4, 4, 3)), PAIR),
            turned(max([machine for machine in one_way_machines() if machine[0] == ONE], key=lambda row: row[1])),
            machine_by(telling(machine_of_plains(ONE, [12], None))),
            machine_for(ONE, ("level", ("not", ("is", "b")), ("ahead", ("is", "c"))), 60),
            machine_of(some_book(3, ONE, 4, 8)),
        ]
        for machine in greater:
            self.assertFalse(is_machine(machine))
            self.assertGreater(max(machine[1], machine[2]), 12)
            self.handed_to_all(machine)

    def handed_to_all(self, machine):
        words = shut_words(machine[0], 4)
        let = [word for word in words if plain_lets(machine, word)]
        self.assertEqual([word for word in words if lets(machine, word)], let)
        for word in words[::5]:
            kind, paper = walk(machine, word)
            self.assertTrue((is_walk if kind == "walk" else shows_bar)(machine, word, paper))
            places = cuts_of(machine, word)
            if places is not None:
                self.assertTrue(are_cuts(machine, word, places))
            cut = cut_of(machine, PAIR, word)
            if cut is not None:
                self.assertTrue(lets(machine, word[:cut]) and lets(PAIR, word[cut:]))
        kind, paper = least_word(machine)
        if kind == "word":
            self.assertTrue(lets(machine, paper))
            self.assertEqual(Watch(machine).rest(), paper)
        else:
            self.assertTrue(shows_none(machine, paper))
            self.assertEqual(let, [])
        self.assertEqual(sorted({p for p, q in least_between(machine)}), list(range(machine[1])))
        for made in (joined(machine, PAIR), met(machine, EVEN), in_row(PAIR, machine), again(machine)):
            for word in words[::7]:
                self.assertEqual(lets(made, word), plain_lets(made, word))
        self.told_or_too_many(machine, words)
        self.assertEqual(len(show_machine(machine).split("\n")), 7 + len(machine[5]))

    def told_or_too_many(self, machine, words):
        for function in (one_way, telling):
            try:
                told = function(machine, 60)
            except TooMany:
                continue
            made = told[0] if function == one_way else machine_by(told)
            self.assertTrue(is_one_way(made))
            self.assertEqual([lets(made, word) for word in words], [lets(machine, word) for word in words])
            for n in range(5):
                let = [word for word in words if len(word) == n and lets(machine, word)]
                self.assertEqual(how_many(made, n), len(let))
                self.assertEqual(within_depth(made, n, 5), len(let))
                self.assertEqual(word_of(made, n, len(let)), None)
                self.assertEqual(sorted(word_of(made, n, k) for k in range(len(let))), sorted(let))
        try:
            kind, paper = within(machine, EVEN, 60)
            if kind == "within":
                self.assertTrue(shows_within(machine, EVEN, paper))
            else:
                self.assertTrue(lets(machine, paper) and not lets(EVEN, paper))
        except TooMany:
            pass

    def test_counts_numbers_and_kinds(self):
        for machine in small_machines()[:20]:
            told = telling(machine, 60)
            made = one_way(machine, 60)[0]
            for n in (0, 3, 12):
                many = how_many(made, n)
                counted = kinds_counted(told, n)
                self.assertEqual(sum(counted[kind] for kind in told[2]), many)
                self.assertEqual(how_many(machine_by(told), n), many)
                if many:
                    word = word_of(made, n, many - 1)
                    self.assertEqual(word_of(machine_by(told), n, many - 1), word)
                    self.assertEqual(number_of(machine_by(told), word), many - 1)
                    self.assertTrue(lets(machine, word))


class SayingsAndErrands(unittest.TestCase):
    def test_sayings_by_all_functions(self):
        seen = 0
        for seed in range(60):
            sheet = (ONE, BARE, TWO)[seed % 3]
            saying = read_saying(sheet, show_saying(some_saying(seed, sheet, 3, 5)))
            try:
                machine = machine_for(sheet, saying, 60)
                told = telling(machine, 60)
            except TooMany:
                continue
            for word in shut_words(sheet, SIZES[sheet])[1::4]:
                want = plain_truth(sheet, word, saying, len(word) - 1)
                self.assertEqual(truths(sheet, word, saying)[-1], want)
                self.assertEqual(lets(machine, word), want)
                self.assertEqual(lets(turned(machine), word), not want)
                self.assertEqual(kind_of(told, word) in told[2], want)
                self.assertEqual(watch_of(machine, word).rest() == [], want)
                self.assertEqual(number_of(machine, word) is not None, want)
            # The machine of not so is what the turned one is, but for the word of no letters.
            other = machine_for(sheet, ("not", saying), 60)
            self.assertEqual(lets(turned(machine), []), True)
            self.assertEqual(least_word(met(machine, other))[0], "reach")
            seen += 1
        self.assertGreater(seen, 15)

    def test_books_hold_to_sayings(self):
        # A rule told by a saying: the last letter but those behind it is a close, and so on.
        for book in (CALLER, CHOOSER) + tuple(some_book(seed, ONE, 2, 3) for seed in range(20)):
            sheet = book[0]
            for saying in (("is", sheet[2][0]), ("not", ("ahead", ("is", sheet[0][0])))):
                rule = machine_for(sheet, saying, 60)
                try:
                    kind, paper = keeps(book, rule, 60)
                except TooMany:
                    continue
                over = words_over(book, 6 if sheet == ONE else 4)
                wrong = [word for word in over if not word or not plain_truth(sheet, word, saying, len(word) - 1)]
                if kind == "keeps":
                    self.assertTrue(shows_keeps(book, rule, paper))
                    self.assertEqual(wrong, [])
                else:
                    word, ended = run_of(book, paper)
                    self.assertTrue(ended)
                    self.assertFalse(word and truths(sheet, word, saying)[-1])
                    self.assertTrue(lets(machine_of(book), word))
                    self.assertFalse(lets(rule, word))

    def test_the_machine_of_a_book_by_all_functions(self):
        for book in (CALLER, CHOOSER):
            machine = machine_of(book)
            kind, word = least_word(machine)
            self.assertEqual(kind, "word")
            over = words_over(book, 6)
            self.assertEqual(tuple(word), min(over, key=lambda row: (len(row), row)))
            self.assertEqual(watch_of(machine, word).rest(), [])
            # It keeps a rule that is its own machine.
            self.assertEqual(keeps(book, machine, 60)[0], "keeps")
            refused(self, NoSheet, keeps, book, machine_for(BARE, ("is", "c")))


class TextsAndDesk(unittest.TestCase):
    def test_from_texts_to_the_desk_and_back(self):
        for machine in small_machines()[:24]:
            text = show_machine(machine)
            self.assertEqual(read_machine(text), machine)
            desk = Desk()
            self.assertEqual(desk.say("machine one " + " / ".join(text.split("\n"))), "ok")
            for word in shut_words(machine[0], 3):
                said = show_word(word)
                self.assertEqual(read_word(machine[0], said), word)
                self.assertEqual(desk.say(f"lets one {said}"), "yes" if lets(machine, word) else "no")
            kind, word = least_word(machine)
            answer = desk.say("least one")
            self.assertEqual(answer, "none" if kind == "reach" else "word " + show_word(word))
            if kind == "word":
                self.assertEqual(desk.say("lets one " + answer[5:]), "yes")
            desk.say("watch one")
            self.assertEqual(desk.say("rest"), "never" if kind == "reach" else "rest " + show_word(word))

    def test_a_word_told_by_the_desk_is_read_by_it(self):
        desk = Desk()
        desk.say("machine one " + show_machine(PAIR).replace("\n", " / "))
        self.assertEqual(desk.say("again one one"), "ok")
        self.assertEqual(desk.say("oneway one one"), "ok")
        for n in range(2, 9):
            many = int(desk.say(f"many one {n}"))
            for k in range(many):
                answer = desk.say(f"word one {n} {k}")
                self.assertEqual(desk.say("lets one " + answer[5:]), "yes")
                self.assertEqual(desk.say("number one " + answer[5:]), str(k))
            self.assertEqual(desk.say(f"word one {n} {many}"), "none")

    def test_machines_put_together_of_those_put_together(self):
        desk = Desk()
        desk.say("machine x " + show_machine(PAIR).replace("\n", " / "))
        desk.say("machine y " + show_machine(EVEN).replace("\n", " / "))
        want = {"x": PAIR, "y": EVEN}
        for row in ("joined z x y", "again z z", "row z z x", "wrapped z z a c", "met w z z", "says s w since is b is a"):
            self.assertEqual(desk.say(row), "ok")
        want["z"] = wrapped(in_row(again(joined(PAIR, EVEN)), PAIR), "a", "c")
        want["w"] = met(want["z"], want["z"])
        want["s"] = machine_for(ONE, ("since", ("is", "b"), ("is", "a")))
        for name, machine in want.items():
            for word in shut_words(ONE, 6)[::4]:
                self.assertEqual(desk.say(f"lets {name} {show_word(word)}"), "yes" if lets(machine, word) else "no")


class Kept(unittest.TestCase):
    """What is handed in stays, and what is told is the asker's own."""

    def test_what_is_handed_in_stays(self):
        machine, other = some_machine(5, ONE, 3, 2, 4), some_machine(7, ONE, 3, 2, 4)
        word = ["a", "b", "c"]
        for function, handed in (
            (machine_for, (ONE, ("since", ("is", "b"), ("is", "a")))),
            (truths, (ONE, word, ("since", ("is", "b"), ("is", "a")))),
            (run_of, (CALLER, [1, 1, 1, 0])),
            (machine_of, (CALLER,)),
            (keeps, (CALLER, machine_for(ONE, ("is", "c"), 60), 60)),
            (show_word, (word,)),
            (show_machine, (machine,)),
            (least_word, (machine,)),
            (cuts_of, (machine, word)),
            (cut_of, (machine, other, word)),
            (joined, (machine, other)),
        ):
            kept(self, function, *handed)

    def test_words_changed_behind_the_call(self):
        watch, letters = Watch(PAIR), ["a", "b"]
        for letter in letters:
            watch.hear(letter)
        letters.append("c")
        self.assertEqual(watch.heard(), ["a", "b"])
        lost = Watch(EVEN)
        lost.hear("a")
        loss = lost.loss()
        table = keeps(CALLER, machine_for(ONE, ("is", "c")))[1]
        before = copy.deepcopy((loss, table))
        self.assertTrue(shows_loss(EVEN, ["a"], loss))
        self.assertTrue(shows_keeps(CALLER, machine_for(ONE, ("is", "c")), table))
        self.assertEqual((loss, table), before)
        loss[1].clear()
        table.clear()
        self.assertEqual((lost.loss(), keeps(CALLER, machine_for(ONE, ("is", "c")))[1]), before)

    def test_told_the_same_each_time(self):
        dice = random.Random(9)
        for _ in range(6):
            seed = dice.randrange(1000)
            machine = some_machine(seed, TWO, 2, 1, 3)
            told = [
                [
                    self.or_refusal(function, *handed)
                    for function, handed in (
                        (least_word, (machine,)),
                        (telling, (machine, 60)),
                        (one_way, (machine, 60)),
                        (keeps, (CHOOSER, machine, 60)),
                    )
                ]
                for _ in range(2)
            ]
            self.assertEqual(told[0], told[1])

    def or_refusal(self, function, *handed):
        try:
            return function(*handed)
        except (TooMany, TooLong) as refusal:
            return str(refusal)

    def test_four_of_each_letter(self):
        four = tuple(tuple(sign * many for many in range(1, 5)) for sign in "abc")
        every = (four, 1, 1, (0,), (0,), tuple(all_moves(four, 1, 1)))
        machine = machine_for(four, ("beside", ("is", "aaa")))
        self.assertTrue(lets(machine, ["b", "aaa", "bb", "cccc"]))
        self.assertFalse(lets(machine, ["b", "aaa", "cc", "bb"]))
        self.assertFalse(lets(machine, ["b", "aa", "bb", "cccc"]))
        self.assertEqual(within(machine, every, 60)[0], "within")
        self.assertEqual(Watch(machine).rest(), ["aaa", "c"])


if __name__ == "__main__":
    unittest.main()
