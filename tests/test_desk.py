import random
import unittest

from echohall.counts import how_many
from echohall.desk import Desk
from echohall.errors import NoLetter, NoName, NoOneWay, NoRow, NoSheet, NoStep, NotShut, NoText, TooLong, TooMany
from echohall.leasts import least_word
from echohall.numbers import number_of, word_of
from echohall.oneway import one_way
from echohall.put import again, in_row, joined, met, turned, wrapped
from echohall.saidby import machine_for
from echohall.tellings import telling
from echohall.texts import show_machine, show_saying, show_word
from echohall.walks import lets
from echohall.within import alike, within
from tests.helps import ONE, TWO, WINDING, all_moves, machine_of_plains, refused, shut_words, some_machine
from tests.said import some_saying

PAIR = (ONE, 3, 1, (0,), (2,), (("close", 1, 0, "c", 2), ("open", 0, "a", 0, 1), ("plain", 1, "b", 1)))
EVEN = (ONE, 2, 0, (0,), (0,), (("plain", 0, "b", 1), ("plain", 1, "b", 0)))
EVERY = (ONE, 1, 1, (0,), (0,), tuple(all_moves(ONE, 1, 1)))
NO_WORD = (ONE, 1, 0, (0,), (), ())
OTHER = (TWO, 1, 1, (0,), (0,), tuple(all_moves(TWO, 1, 1)))
# Two first rooms: no one-way machine.
LOOSE = EVEN[:3] + ((0, 1),) + EVEN[4:]


def row_for(name, machine):
    return f"machine {name} " + show_machine(machine).replace("\n", " / ")


def desk_of(**machines):
    desk = Desk()
    for name, machine in machines.items():
        assert desk.say(row_for(name, machine)) == "ok"
    return desk


def some_desk():
    return desk_of(pair=PAIR, even=EVEN, every=EVERY, none=NO_WORD, other=OTHER, loose=LOOSE)


class Desks(unittest.TestCase):
    def looks(self, desk, name, machine):
        """That this machine stands under a name, as far as rows let it be seen."""
        for word in shut_words(machine[0], 4 if machine[0] == ONE else 2):
            want = "yes" if lets(machine, word) else "no"
            self.assertEqual(desk.say(f"lets {name} {show_word(word)}"), want)

    def bad(self, desk, row, kind=NoRow):
        return refused(self, kind, desk.say, row)

    def test_machine(self):
        desk = Desk()
        row = "machine pair opens a / plains b / closes c / rooms 3 / marks 1 / firsts 0 / lasts 2"
        row += " / close 1 0 c 2 / open 0 a 0 1 / plain 1 b 1"
        self.assertEqual(desk.say(row), "ok")
        self.looks(desk, "pair", PAIR)
        self.assertEqual(desk.say("machine e opens a / plains / closes c / rooms 1 / marks 0 / firsts 0 / lasts 0"), "ok")
        self.assertEqual(desk.say("lets e -"), "yes")

    def test_machine_texts_that_are_none(self):
        desk = some_desk()
        for row, place in (
            ("machine pair ", 0),
            ("machine pair  ", 0),
            ("machine pair opens a", 1),
            ("machine pair  opens a", 0),
            ("machine pair opens a /", 0),
            ("machine pair opens a / ", 1),
            ("machine pair opens a / plains b / closes c / rooms 3 / marks 1 / firsts 0 / last 2", 6),
            ("machine pair opens a/ plains", 0),
            ("machine pair opens a  / plains b", 0),
            ("machine pair opens a /  plains b", 1),
            ("machine pair opens a / plains / closes c / rooms 1 / marks 0 / firsts 0 / lasts 0 / x", 7),
            ("machine pair opens a / plains / closes c / rooms 1 / marks 0 / firsts 0 / lasts 0 / ", 7),
            ("machine pair opens a / plains / closes c / rooms 7", 3),
            ("machine pair pair", 0),
        ):
            self.assertEqual(self.bad(desk, row, NoText).place, place, row)
            self.looks(desk, "pair", PAIR)
        self.bad(desk, "machine new opens a", NoText)
        self.bad(desk, "least new", NoName)

    def test_put_together(self):
        for row, machine in (
            ("joined new pair even", joined(PAIR, EVEN)),
            ("met new every even", met(EVERY, EVEN)),
            ("row new pair even", in_row(PAIR, EVEN)),
            ("row new even pair", in_row(EVEN, PAIR)),
            ("again new pair", again(PAIR)),
            ("wrapped new even a c", wrapped(EVEN, "a", "c")),
            ("turned new even", turned(EVEN)),
            ("oneway new loose", one_way(LOOSE)[0]),
            ("says new pair is b", machine_for(ONE, ("is", "b"))),
            ("says new pair not around is a", machine_for(ONE, ("not", ("around", ("is", "a"))))),
            ("wrapped new other up y", wrapped(OTHER, "up", "y")),
            ("says new other is m", machine_for(TWO, ("is", "m"))),
        ):
            desk = some_desk()
            self.bad(desk, "least new", NoName)
            self.assertEqual(desk.say(row), "ok")
            self.looks(desk, "new", machine)
            self.looks(desk, "pair", PAIR)
            self.looks(desk, "even", EVEN)

    def test_the_machine_that_the_function_tells(self):
        # By its kinds and numbers, of functions that tell just one.
        desk = some_desk()
        desk.say("joined two pair even")
        desk.say("oneway one two")
        made = one_way(joined(PAIR, EVEN))[0]
        for n in range(6):
            self.assertEqual(desk.say(f"many one {n}"), str(how_many(made, n)))
        desk.say("turned three one")
        self.assertEqual(desk.say("many three 60"), str(how_many(turned(made), 60)))

    def test_lets(self):
        desk = some_desk()
        for row, answer in (
            ("lets pair a c", "yes"),
            ("lets pair a b b c", "yes"),
            ("lets pair -", "no"),
            ("lets even -", "yes"),
            ("lets even b", "no"),
            ("lets even b b", "yes"),
            ("lets other z m down", "yes"),
        ):
            self.assertEqual(desk.say(row), answer)
        self.assertEqual(self.bad(desk, "lets pair a b", NotShut).place, 0)
        self.assertEqual(self.bad(desk, "lets pair b c", NotShut).place, 1)
        for text, place in (("", 0), (" ", 0), (" a", 0), ("a ", 1), ("a  c", 1), ("a x", 1), ("- a", 1), ("A", 0)):
            self.assertEqual(self.bad(desk, "lets pair " + text, NoText).place, place)
        self.assertEqual(self.bad(desk, "lets pair a c x c", NoText).place, 2)
        self.bad(desk, "lets pair", NoRow)
        long = " ".join(["b"] * 400)
        self.assertEqual(desk.say(f"lets even {long}"), "yes")
        self.assertEqual(self.bad(desk, f"lets even {long} b", NoText).place, 400)

    def test_least(self):
        desk = some_desk()
        self.assertEqual(desk.say("least pair"), "word a c")
        self.assertEqual(desk.say("least even"), "word -")
        self.assertEqual(desk.say("least none"), "none")
        # One that is wound within itself, with words of hundreds of letters.
        desk.say(row_for("winding", WINDING))
        kind, word = least_word(WINDING, 2000)
        if len(word) > 400:
            self.assertEqual(self.bad(desk, "least winding", TooLong).size, len(word))
        else:
            self.assertEqual(desk.say("least winding"), "word " + show_word(word))

    def test_within_and_alike(self):
        desk = some_desk()
        self.assertEqual(desk.say("within pair every"), "yes")
        self.assertEqual(desk.say("within every pair"), "no -")
        self.assertEqual(desk.say("within pair even"), "no a c")
        self.assertEqual(desk.say("within none pair"), "yes")
        self.assertEqual(desk.say("alike pair pair"), "yes")
        self.assertEqual(desk.say("alike pair even"), "no")
        desk.say("again more every")
        self.assertEqual(desk.say("alike more every"), "yes")
        self.bad(desk, "within pair other", NoSheet)
        self.bad(desk, "alike other pair", NoSheet)
        # The limit is that which is left out: more than 16 triples.
        desk.say(row_for("chain", machine_of_plains(ONE, [5], None)))
        self.bad(desk, "within chain chain", TooMany)
        self.bad(desk, "alike chain chain", TooMany)

    def test_kinds(self):
        desk = some_desk()
        self.assertEqual(desk.say("kinds every"), "1")
        self.assertEqual(desk.say("kinds even"), str(len(telling(EVEN)[1])))
        self.assertEqual(desk.say("kinds pair"), str(len(telling(PAIR)[1])))

    def test_many_word_and_number(self):
        desk = some_desk()
        self.assertEqual(desk.say("many every 3"), "4")
        self.assertEqual(desk.say("many even 59"), "0")
        self.assertEqual(desk.say("many every 60"), str(how_many(EVERY, 60)))
        self.assertEqual([desk.say(f"word every 3 {k}") for k in (0, 1, 2, 3, 4)][-3:], ["word b a c", "word b b b", "none"])
        self.assertEqual(desk.say("word even 0 0"), "word -")
        self.assertEqual(desk.say("word every 20 0"), "word " + show_word(word_of(EVERY, 20, 0)))
        self.assertEqual(desk.say("word every 20 " + "9" * 30), "none")
        self.assertEqual(desk.say("number every b a c"), "2")
        self.assertEqual(desk.say("number even b"), "none")
        self.assertEqual(desk.say("number even -"), "0")
        self.assertEqual(desk.say("number even " + " ".join(["b"] * 20)), "0")
        for row in ("many loose 3", "word loose 3 0", "number loose b", "turned new loose"):
            self.bad(desk, row, NoOneWay)
        self.assertEqual(self.bad(desk, "number loose a", NotShut).place, 0)
        self.assertEqual(self.bad(desk, "number loose c a", NotShut).place, 0)
        self.assertEqual(self.bad(desk, "number loose c x", NoText).place, 1)

    def test_numbers_beyond_what_is_told(self):
        desk = some_desk()
        for number in ("61", "060", "00", "-1", "+1", "1.5", "x", "", "100", "1" * 31, "1" * 30, "6 0", "six"):
            self.bad(desk, f"many every {number}")
        for number in ("21", "020", "00", "-1", "+1", "x", "", "100", "1" * 30):
            self.bad(desk, f"word every {number} 0")
        for number in ("01", "00", "-1", "+1", "x", "", "1" * 31, "0" * 30):
            self.bad(desk, f"word every 3 {number}")
        self.assertEqual(desk.say("word every 3 " + "1" * 30), "none")
        self.assertEqual(desk.say("many every 0"), "1")
        self.assertEqual(desk.say("word every 20 " + str(how_many(EVERY, 20) - 1)), "word " + " ".join(["b"] * 20))
        # By its words a row is none of these, whatever stands under its names.
        self.bad(desk, "many nobody 61")
        self.bad(desk, "word nobody 21 0")
        self.bad(desk, "many loose 61")

    def test_names(self):
        desk = Desk()
        for name in ("x", "abcdefgh", "machine", "lets", "rest", "watch", "row", "a", "plains"):
            if len(name) <= 8:
                self.assertEqual(desk.say(row_for(name, PAIR)), "ok")
                self.looks(desk, name, PAIR)
        self.assertEqual(desk.say("joined joined machine lets"), "ok")
        self.assertEqual(desk.say("within lets joined"), "yes")
        self.assertEqual(desk.say("watch watch"), "ok")
        text = show_machine(PAIR).replace("\n", " / ")
        for name in ("", "abcdefghi", "A", "a1", "1", "-", "a-b", "/", "ab.c"):
            self.bad(desk, f"machine {name} {text}")
            self.bad(desk, f"joined {name} x x")
            self.bad(desk, f"joined new {name} x")
            self.bad(desk, f"joined new x {name}")
            self.bad(desk, f"again {name} x")
            self.bad(desk, f"wrapped {name} x a c")
            self.bad(desk, f"wrapped new {name} a c")
            self.bad(desk, f"says {name} x is b")
            self.bad(desk, f"says new {name} is b")
            self.bad(desk, f"lets {name} -")
            self.bad(desk, f"least {name}")
            self.bad(desk, f"within x {name}")
            self.bad(desk, f"many {name} 3")
            self.bad(desk, f"word {name} 3 0")
            self.bad(desk, f"number {name} b")
            self.bad(desk, f"watch {name}")
        self.bad(desk, "least new", NoName)

    def test_no_name(self):
        desk = some_desk()
        for row in (
            "joined new nobody pair",
            "joined new pair nobody",
            "joined new nobody nowhere",
            "met new pair nobody",
            "row new pair nobody",
            "again new nobody",
            "again nobody nobody",
            "wrapped new nobody a c",
            "turned new nobody",
            "oneway new nobody",
            "says new nobody is b",
            "lets nobody -",
            "least nobody",
            "within pair nobody",
            "within nobody pair",
            "alike pair nobody",
            "kinds nobody",
            "many nobody 3",
            "word nobody 3 0",
            "number nobody b",
            "watch nobody",
        ):
            self.bad(desk, row, NoName)
            self.bad(desk, "least new", NoName)
            self.bad(desk, "least nobody", NoName)

    def test_rows_that_are_none(self):
        desk = some_desk()
        desk.say("watch pair")
        for row in (
            "",
            " ",
            "x",
            "-",
            "pair",
            "Lets pair a c",
            "letsgo pair a c",
            "is pair",
            "in row new pair even",
            "one way new pair",
            "ok",
            "machine",
            "machine ",
            "machine new",
            "lets",
            "lets ",
            "lets pair",
            "number pair",
            "says new pair",
            "says new",
            "says",
        ):
            self.bad(desk, row)

    def test_blanks_too_many_and_too_few(self):
        rows = (
            "joined new pair even",
            "met new pair even",
            "row new pair even",
            "again new pair",
            "wrapped new pair a c",
            "turned new pair",
            "oneway new pair",
            "least pair",
            "within pair even",
            "alike pair pair",
            "kinds pair",
            "many pair 3",
            "word pair 3 0",
            "watch pair",
            "hear a",
            "back",
            "rest",
        )
        desk = some_desk()
        desk.say("watch every")
        desk.say("hear b")
        for row in rows:
            words = row.split(" ")
            for at in range(len(words) + 1):
                self.bad(desk, " ".join(words[:at] + [""] + words[at:]))
            self.bad(desk, row + " x")
            self.bad(desk, row + " even")
            if len(words) > 1:
                self.bad(desk, " ".join(words[:-1]))
                self.bad(desk, words[0])
                self.bad(desk, words[0] + words[1])
            self.assertEqual(desk.say("rest"), "rest -")
        # All that stands behind the blank is the text, but ahead of it there is one alone.
        for row in ("machine new opens a", "lets pair a c", "number every b", "says new pair is b"):
            words = row.split(" ")
            for at in range(3 if words[0] == "says" else 2):
                self.bad(desk, " ".join(words[:at] + [""] + words[at:]))
        self.assertEqual(self.bad(desk, "says new pair  is b", NoText).place, 0)
        self.assertEqual(self.bad(desk, "number every  b", NoText).place, 0)
        self.bad(desk, "least new", NoName)

    def test_line_ends(self):
        desk = some_desk()
        desk.say("watch every")
        for row in ("least pair\n", "\nleast pair", "lets pair a\nc", "lets pair a c\n", "hear a\n", "rest\n", "many\nevery 3"):
            self.bad(desk, row)
        self.bad(desk, "machine new " + show_machine(PAIR))
        self.assertEqual(desk.say("rest"), "rest -")

    def test_wrapped_and_heard_letters(self):
        desk = some_desk()
        self.assertEqual(self.bad(desk, "wrapped new pair x c", NoLetter).place, 0)
        self.assertEqual(self.bad(desk, "wrapped new pair a x", NoLetter).place, 1)
        self.assertEqual(self.bad(desk, "wrapped new pair c a", NoLetter).place, 0)
        self.assertEqual(self.bad(desk, "wrapped new pair A1 -", NoLetter).place, 0)
        self.bad(desk, "wrapped new pair a")
        self.bad(desk, "wrapped new pair a c c")
        self.bad(desk, "least new", NoName)
        desk.say("watch pair")
        self.assertEqual(self.bad(desk, "hear X9", NoLetter).place, 0)
        desk.say("hear a")
        self.assertEqual(self.bad(desk, "hear x", NoLetter).place, 1)
        self.assertEqual(desk.say("rest"), "rest c")

    def test_says(self):
        desk = some_desk()
        for text, place in (("", 0), ("is", 1), ("is x", 1), ("is b ", 2), ("not", 1), ("is b is b", 2), ("x", 0)):
            self.assertEqual(self.bad(desk, f"says new pair {text}", NoText).place, place)
        self.bad(desk, "says new pair " + " ".join(["not"] * 8) + " is b", NoText)
        # Too many looks, by the limit that is left out.
        found = None
        for seed in range(60):
            saying = some_saying(seed, ONE, 4, 7)
            try:
                machine_for(ONE, saying)
            except TooMany:
                found = saying
        self.bad(desk, f"says pair pair {show_saying(found)}", TooMany)
        self.looks(desk, "pair", PAIR)

    def test_a_name_told_anew(self):
        desk = some_desk()
        self.assertEqual(desk.say("joined pair pair even"), "ok")
        self.looks(desk, "pair", joined(PAIR, EVEN))
        self.assertEqual(desk.say("again pair pair"), "ok")
        self.looks(desk, "pair", again(joined(PAIR, EVEN)))
        self.assertEqual(desk.say("met pair pair pair"), "ok")
        self.looks(desk, "pair", again(joined(PAIR, EVEN)))
        self.assertEqual(desk.say(row_for("pair", OTHER)), "ok")
        self.looks(desk, "pair", OTHER)
        self.bad(desk, "joined pair pair even", NoSheet)
        self.looks(desk, "pair", OTHER)

    def test_watch(self):
        desk = some_desk()
        for row in ("hear a", "back", "rest"):
            self.bad(desk, row)
        self.assertEqual(desk.say("watch pair"), "ok")
        self.assertEqual(desk.say("rest"), "rest a c")
        self.assertEqual(desk.say("hear a"), "ok")
        self.assertEqual(desk.say("rest"), "rest c")
        self.assertEqual(desk.say("hear c"), "ok")
        self.assertEqual(desk.say("rest"), "rest -")
        self.assertEqual(self.bad(desk, "hear c", NotShut).place, 2)
        self.assertEqual(desk.say("rest"), "rest -")
        self.assertEqual(desk.say("hear b"), "ok")
        self.assertEqual(desk.say("rest"), "never")
        self.assertEqual([desk.say("back") for _ in range(3)], ["ok"] * 3)
        self.bad(desk, "back", NoStep)
        self.assertEqual(desk.say("rest"), "rest a c")

    def test_a_watch_hears_on_at_the_machine_that_stood_there(self):
        desk = some_desk()
        desk.say("watch pair")
        desk.say("hear a")
        desk.say("turned pair even")
        self.assertEqual(desk.say("rest"), "rest c")
        desk.say(row_for("pair", OTHER))
        self.assertEqual(desk.say("hear b"), "ok")
        self.assertEqual(desk.say("rest"), "rest c")
        # A watch that isn't begun changes nothing.
        self.bad(desk, "watch nobody", NoName)
        self.bad(desk, "watch even even")
        self.assertEqual(desk.say("rest"), "rest c")
        # Begun anew, at what stands there now.
        self.assertEqual(desk.say("watch pair"), "ok")
        self.assertEqual(desk.say("rest"), "rest -")
        self.assertEqual(self.bad(desk, "hear a", NoLetter).place, 0)
        self.assertEqual(desk.say("hear z"), "ok")
        self.assertEqual(desk.say("rest"), "rest y")

    def test_too_long_rests(self):
        desk = Desk()
        desk.say(row_for("winding", WINDING))
        for p in range(6):
            for q in range(6):
                machine = WINDING[:3] + ((p,), (q,)) + WINDING[5:]
                word = least_word(machine, 5000)[1]
                desk.say(row_for("now", machine))
                desk.say("watch now")
                if len(word) > 400:
                    self.assertEqual(self.bad(desk, "rest", TooLong).size, len(word))
                    self.assertEqual(self.bad(desk, "least now", TooLong).size, len(word))
                elif word:
                    self.assertEqual(desk.say("rest"), "rest " + show_word(word))

    def test_the_order_of_refusals(self):
        desk = some_desk()
        # By its words none of these, ahead of a name.
        self.bad(desk, "joined New nobody pair")
        self.bad(desk, "many nobody 61")
        self.bad(desk, "within nobody pair x")
        self.bad(desk, "says New nobody x")
        # A name ahead of a text.
        self.bad(desk, "says new nobody x", NoName)
        self.bad(desk, "lets nobody x x", NoName)
        self.bad(desk, "number nobody  ", NoName)
        # A text ahead of what the functions refuse.
        self.assertEqual(self.bad(desk, "lets pair c x", NoText).place, 1)
        self.assertEqual(self.bad(desk, "number loose a x", NoText).place, 1)
        # Among the functions' own: NoLetter, NotShut, NoOneWay, TooMany.
        self.bad(desk, "number loose a", NotShut)
        self.bad(desk, "number loose b", NoOneWay)
        # A watch that isn't on, whatever is heard.
        self.bad(desk, "hear x")
        self.bad(desk, "back")

    def test_what_is_refused_changes_nothing(self):
        desk = some_desk()
        desk.say("watch pair")
        desk.say("hear a")
        for row, kind in (
            ("machine pair opens", NoText),
            ("joined pair pair other", NoSheet),
            ("met pair even other", NoSheet),
            ("row pair even nobody", NoName),
            ("wrapped pair even c a", NoLetter),
            ("turned pair loose", NoOneWay),
            ("says pair even is", NoText),
            ("hear x", NoLetter),
            ("watch nobody", NoName),
            ("back x", NoRow),
        ):
            self.bad(desk, row, kind)
            self.looks(desk, "pair", PAIR)
            self.assertEqual(desk.say("rest"), "rest c")
        chain = machine_of_plains(ONE, [5], None)
        desk.say(row_for("chain", chain))
        desk.say("joined wide chain pair")
        found = None
        for seed in range(80):
            machine = some_machine(seed, ONE, 4, 3, 4)
            try:
                one_way(machine)
            except TooMany:
                found = machine
        desk.say(row_for("dense", found))
        self.bad(desk, "oneway pair dense", TooMany)
        self.looks(desk, "pair", PAIR)

    def test_two_desks(self):
        one, other = Desk(), Desk()
        one.say(row_for("x", PAIR))
        self.bad(other, "least x", NoName)
        other.say(row_for("x", EVEN))
        one.say("watch x")
        self.bad(other, "rest")
        self.assertEqual((one.say("least x"), other.say("least x")), ("word a c", "word -"))
        other.say("watch x")
        other.say("hear b")
        self.assertEqual((one.say("rest"), other.say("rest")), ("rest a c", "rest b"))

    def test_answers_as_the_functions_tell(self):
        dice = random.Random(4)
        for seed in range(25):
            first, second = some_machine(seed, ONE, 2, 1, 2), some_machine(seed + 1, ONE, 2, 1, 3)
            desk = desk_of(x=first, y=second)
            kind, told = least_word(first)
            self.assertEqual(desk.say("least x"), "word " + show_word(told) if kind == "word" else "none")
            try:
                told = within(first, second)
                self.assertEqual(desk.say("within x y"), "yes" if told[0] == "within" else "no " + show_word(told[1]))
                told = alike(first, second)
                self.assertEqual(desk.say("alike x y"), "yes" if told[0] == "alike" else "no")
            except TooMany:
                pass
            try:
                made = one_way(first)[0]
            except TooMany:
                self.bad(desk, "oneway z x", TooMany)
                continue
            desk.say("oneway z x")
            n, k = dice.randrange(8), dice.randrange(5)
            word = word_of(made, n, k)
            self.assertEqual(desk.say(f"word z {n} {k}"), "none" if word is None else "word " + show_word(word))
            for word in shut_words(ONE, 3):
                number = number_of(made, word)
                self.assertEqual(desk.say("number z " + show_word(word)), "none" if number is None else str(number))


if __name__ == "__main__":
    unittest.main()
