import random
import unittest

from echohall.errands import is_book, machine_of, run_of
from echohall.errors import NoChoice
from echohall.machines import is_machine
from echohall.walks import lets
from tests.books import AT_ONCE, CALLER, CHOOSER, NEVER_OVER, plain_runs, plain_steps, some_book, words_over
from tests.helps import BARE, ONE, TWO, is_shaped, kept, plain_lets, refused, shut_words

SAY = ("say", "b", (0,))
BACK = ("back", "c")
ASK = ("ask", (0,), (("c", 0),))


def book_of(*rows):
    """A book of one errand with these rows."""
    return (ONE, (("a", rows),))


def deep_in(thing, many):
    for _ in range(many):
        thing = (thing,)
    return thing


class Books(unittest.TestCase):
    def good(self, thing):
        self.assertIs(kept(self, is_book, thing), True, thing)

    def bad(self, thing):
        self.assertIs(kept(self, is_book, thing), False, thing)

    def test_ordinary(self):
        for book in (CALLER, CHOOSER, NEVER_OVER, AT_ONCE):
            self.good(book)
        for seed in range(30):
            self.good(some_book(seed, (ONE, TWO, BARE)[seed % 3], 1 + seed % 4, 1 + seed % 8))

    def test_how_many_errands(self):
        errand = ("a", (BACK,))
        for many in range(7):
            (self.good if 1 <= many <= 4 else self.bad)((ONE, (errand,) * many))

    def test_how_many_rows(self):
        for many in range(11):
            (self.good if 1 <= many <= 8 else self.bad)(book_of(*([BACK] * many)))

    def test_parts_more_and_less(self):
        self.bad(())
        self.bad((ONE,))
        self.bad(CALLER + (ONE,))
        self.bad((ONE, (("a",),)))
        self.bad((ONE, (("a", (BACK,), ()),)))
        self.bad((ONE, ((),)))
        for row in (SAY, BACK, ASK):
            self.good(book_of(row))
            self.bad(book_of(row + ((),)))
            self.bad(book_of(row + (0,)))
            self.bad(book_of(row[:-1]))
            self.bad(book_of(row[:1]))
            self.bad(book_of(row[1:]))
        self.bad(book_of(()))

    def test_heads(self):
        for head in ("Say", "says", "", "b", 0, None, True, (), ["say"], ("say",)):
            self.bad(book_of((head,) + SAY[1:]))
            self.bad(book_of((head,) + ASK[1:]))
            self.bad(book_of((head,) + BACK[1:]))
        self.bad(book_of(("ask",) + SAY[1:]))
        self.bad(book_of(("say",) + ASK[1:]))
        self.bad(book_of(("back",) + SAY[1:]))
        self.bad(book_of(("say",) + BACK[1:]))

    def test_turns(self):
        rows = [BACK] * 3
        for turns in ((0,), (3,), (0, 1, 2, 3), (1, 3)):
            self.good(book_of(("say", "b", turns), *rows))
        for turns in ((), (4,), (-1,), (0, 4), (1, 0), (1, 1), (0, 2, 1), [0], (True,), (0, True), ("0",), (None,)):
            self.bad(book_of(("say", "b", turns), *rows))
        for turns in (0, None, "0", ((0,),), (0, (1,))):
            self.bad(book_of(("say", "b", turns), *rows))

    def test_asked(self):
        more = (("a", (BACK,)),) * 3
        for asked in ((0,), (3,), (0, 1, 2, 3), (1, 3)):
            self.good((ONE, (("a", (("ask", asked, ()),)),) + more))
        for asked in ((), (4,), (-1,), (0, 4), (1, 0), (2, 2), [0], (False,), (0, True), ("a",), 0, None, ((0,),)):
            self.bad((ONE, (("a", (("ask", asked, ()),)),) + more))

    def test_backs(self):
        def book(backs):
            rows = (("ask", (0,), backs), ("back", "y"), ("back", "down"))
            return (TWO, (("z", rows),))

        # Rising as Python sorts: by the alphabet, whatever the order of the sheet is.
        for backs in ((), (("y", 0),), (("y", 2),), (("down", 2), ("y", 0)), (("down", 0), ("down", 1), ("down", 2))):
            self.good(book(backs))
        for backs in (
            (("y", 3),),
            (("y", -1),),
            (("y", True),),
            (("y", "0"),),
            (("y", None),),
            (("y", 0), ("down", 2)),
            (("y", 1), ("y", 0)),
            (("y", 1), ("y", 1)),
            (["y", 0],),
            [("y", 0)],
            (("y",),),
            (("y", 0, 0),),
            ((0, "y"),),
            (("y", 0), 1),
            ("y", 0),
            None,
            0,
            "y",
        ):
            self.bad(book(backs))

    def test_letters_of_another_kind(self):
        self.good((TWO, (("up", (("say", "dot", (0,)), ("ask", (0,), (("down", 0),)), ("back", "y"))),)))
        for letter in ("m", "y", "x", "", "UP", 0, None, ("up",), ["up"], True):
            self.bad((TWO, ((letter, (("back", "y"),)),)))
        for letter in ("z", "y", "x", "", "Dot", 0, None, ("dot",), ["dot"]):
            self.bad((TWO, (("up", (("say", letter, (0,)),)),)))
        for letter in ("z", "m", "x", "", "Down", 0, None, ("y",), ["y"]):
            self.bad((TWO, (("up", (("back", letter),)),)))
            self.bad((TWO, (("up", (("ask", (0,), ((letter, 0),)),)),)))
        # No plain, so nothing to say.
        self.good((BARE, (("a", (BACK,)),)))
        self.bad((BARE, (("a", (SAY,)),)))

    def test_lists_for_tuples(self):
        self.bad(list(AT_ONCE))
        self.bad([ONE, (("a", (BACK,)),)])
        self.bad((list(ONE), (("a", (BACK,)),)))
        self.bad((ONE, [("a", (BACK,))]))
        self.bad((ONE, (["a", (BACK,)],)))
        self.bad((ONE, (("a", [BACK]),)))
        self.bad((ONE, (("a", (list(BACK),)),)))

    def test_a_sheet_that_is_none(self):
        errands = (("a", (BACK,)),)
        for sheet in ((), ONE[:2], (("a",), ("a",), ("c",)), ((), (), ("c",)), None, 0, "abc", (("a",), (), ())):
            self.bad((sheet, errands))

    def test_things_of_other_kinds(self):
        for thing in (None, True, False, 0, 7, -3, "", "book", "a\nb", [], (), [[]], ((),), (None, None), (ONE, None)):
            self.bad(thing)
        for many in range(1, 25):
            self.bad(deep_in("a", many))
            self.bad((ONE, deep_in((BACK,), many)))
            self.bad(book_of(deep_in(BACK, many)))
        self.bad((ONE, (BACK,) * 2900))
        self.bad(tuple(range(3000)))

    def test_one_part_changed(self):
        wrong = (None, True, -1, 9, "", "x", (), [], ((),), ("c",), (0, 0))

        def changed(thing, path, part):
            if not path:
                return part
            row = list(thing)
            row[path[0]] = changed(row[path[0]], path[1:], part)
            return tuple(row)

        def paths(thing):
            told = [()]
            if isinstance(thing, tuple):
                told += [(at,) + path for at, part in enumerate(thing) for path in paths(part)]
            return told

        for book in (CALLER, CHOOSER):
            for path in paths(book[1]):
                for part in wrong:
                    # Backs may be none, all else that is taken here may not.
                    row = book[1][path[0]][1][path[2]] if len(path) == 4 else ()
                    is_backs = len(path) == 4 and path[3] == 2 and row[0] == "ask" and part == ()
                    (self.good if is_backs else self.bad)((book[0], changed(book[1], path, part)))


class Runs(unittest.TestCase):
    def test_by_hand(self):
        self.assertEqual(kept(self, run_of, CALLER, []), ([], False))
        self.assertEqual(kept(self, run_of, CALLER, [0]), (["b"], False))
        self.assertEqual(kept(self, run_of, CALLER, [0, 1, 1]), (["b", "b", "a"], False))
        self.assertEqual(kept(self, run_of, CALLER, [1, 1, 1]), (["b", "a", "b"], False))
        self.assertEqual(kept(self, run_of, CALLER, [1, 1, 1, 0]), (["b", "a", "b", "c"], True))
        self.assertEqual(kept(self, run_of, AT_ONCE, []), ([], True))

    def test_errands_that_ask_themselves(self):
        told = run_of(CALLER, [1, 0, 1, 1, 1, 0, 0])
        self.assertEqual(told, (["b", "a", "b", "a", "b", "c", "c"], True))
        # Back of the errand that was asked by itself: it isn't over there.
        self.assertEqual(run_of(CALLER, [1, 0, 1, 1, 1, 0]), (["b", "a", "b", "a", "b", "c"], False))
        self.assertEqual(run_of(NEVER_OVER, [0] * 100), (["a"] * 100, False))

    def test_a_close_with_two_rows_and_one_with_one(self):
        self.assertEqual(run_of(CHOOSER, [1, 0, 0]), (["up", "m", "down"], False))
        self.assertEqual(run_of(CHOOSER, [1, 0, 1]), (["up", "m", "down"], True))
        self.assertEqual(run_of(CHOOSER, [1, 0, 0, 0]), (["up", "m", "down", "dot"], True))
        self.assertEqual(run_of(CHOOSER, [1, 1, 0]), (["up", "m", "y"], False))
        self.assertEqual(refused(self, NoChoice, run_of, CHOOSER, [1, 1, 1]).place, 2)
        self.assertEqual(refused(self, NoChoice, run_of, CHOOSER, [1, 0, 2]).place, 2)

    def test_choices_that_can_t_be_made(self):
        for wrong in (2, -1, -2, 10**30, -(10**30), 10**400):
            self.assertEqual(refused(self, NoChoice, run_of, CALLER, [wrong]).place, 0)
            self.assertEqual(refused(self, NoChoice, run_of, CALLER, [1, wrong]).place, 1)
            self.assertEqual(refused(self, NoChoice, run_of, CALLER, [1, 1, 1, wrong]).place, 3)
            # The first of several.
            self.assertEqual(refused(self, NoChoice, run_of, CALLER, [0, 0, wrong, wrong, 0]).place, 2)
        self.assertEqual(refused(self, NoChoice, run_of, CALLER, [1, 1, 1, 1]).place, 3)

    def test_behind_the_end(self):
        for wrong in (0, 1, -1):
            self.assertEqual(refused(self, NoChoice, run_of, AT_ONCE, [wrong]).place, 0)
            self.assertEqual(refused(self, NoChoice, run_of, CALLER, [1, 1, 1, 0, wrong]).place, 4)

    def test_a_close_by_which_who_asked_doesn_t_go_on(self):
        rows = (("ask", (1,), (("y", 1),)), ("back", "y"))
        book = (TWO, (("z", rows), ("up", (("back", "down"),))))
        self.assertEqual(run_of(book, [0]), (["up"], False))
        self.assertEqual(refused(self, NoChoice, run_of, book, [0, 0]).place, 1)
        none = (ONE, (("a", (("ask", (0,), ()),)),))
        self.assertEqual(run_of(none, [0, 0]), (["a", "a"], False))
        self.assertEqual(refused(self, NoChoice, run_of, none, [0, 1]).place, 1)

    def test_numbers_are_places_and_not_rows_or_errands(self):
        rows = (("say", "b", (2, 3)), ("back", "c"), ("ask", (1, 2), (("c", 1), ("c", 3))), ("back", "c"))
        book = (ONE, (("a", rows), ("a", (("back", "c"),)), ("a", (("say", "b", (1,)), ("back", "c")))))
        self.assertEqual(run_of(book, [1]), (["b"], True))
        self.assertEqual(run_of(book, [0, 0, 1]), (["b", "a", "c"], True))
        self.assertEqual(run_of(book, [0, 1, 0, 0]), (["b", "a", "b", "c"], True))
        self.assertEqual(refused(self, NoChoice, run_of, book, [2]).place, 0)
        self.assertEqual(refused(self, NoChoice, run_of, book, [0, 2]).place, 1)

    def test_held_against_all_runs(self):
        for seed in range(40):
            book = some_book(seed, (ONE, TWO, BARE)[seed % 3], 1 + seed % 3, 2 + seed % 3)
            for choices, word, over in plain_runs(book, 4)[:300]:
                self.assertEqual(kept(self, run_of, book, choices), (word, over))

    def test_a_hundred_choices(self):
        dice = random.Random(5)
        tried = 0
        for seed in range(200):
            book = some_book(seed, (ONE, TWO)[seed % 2], 3, 5)
            choices, word, place = [], [], (0, 0, ())
            while len(choices) < 100:
                steps = plain_steps(book, place)
                if not steps:
                    break
                pick = dice.randrange(len(steps))
                choices.append(pick)
                word.append(steps[pick][0])
                place = steps[pick][1]
            told = kept(self, run_of, book, choices)
            self.assertEqual(told[0], word)
            self.assertEqual((type(told), type(told[0]), type(told[1])), (tuple, list, bool))
            wrong = choices + [len(plain_steps(book, place))]
            self.assertEqual(refused(self, NoChoice, run_of, book, wrong).place, len(choices))
            tried += len(choices) == 100
        self.assertGreater(tried, 20)

    def test_what_is_told_is_the_askers_own(self):
        run_of(CALLER, [0])[0].append("c")
        run_of(CALLER, [])[0].append("c")
        self.assertEqual(run_of(CALLER, [0]), (["b"], False))
        self.assertEqual(run_of(CALLER, []), ([], False))


class MachinesOfBooks(unittest.TestCase):
    def looked(self, book, most):
        machine = kept(self, machine_of, book)
        rows = sum(len(errand[1]) for errand in book[1])
        self.assertEqual((machine[0], machine[1]), (book[0], rows))
        self.assertTrue(is_shaped(machine))
        if rows <= 6 and machine[2] <= 6 and len(machine[5]) <= 240:
            self.assertTrue(is_machine(machine))
        over = words_over(book, most)
        for word in shut_words(book[0], most):
            self.assertEqual(plain_lets(machine, word), tuple(word) in over, (book, word))
        self.assertTrue(all(lets(machine, list(word)) for word in over))
        return over

    def test_by_hand(self):
        self.assertEqual(self.looked(AT_ONCE, 6), {()})
        self.assertEqual(self.looked(NEVER_OVER, 6), set())
        over = self.looked(CALLER, 7)
        self.assertIn(("b", "a", "b", "c"), over)
        self.assertNotIn(("b",), over)
        self.assertIn(("up", "m", "down", "dot"), self.looked(CHOOSER, 5))

    def test_a_book_with_no_back(self):
        book = book_of(("say", "b", (0,)))
        self.assertEqual(self.looked(book, 6), set())
        # Only the errand that is asked is back.
        book = (ONE, (("a", (("ask", (1,), (("c", 0),)),)), ("a", (BACK,))))
        self.assertEqual(self.looked(book, 6), set())

    def test_who_asked_goes_on_and_no_other(self):
        # Both errands ask the third; what comes behind it hangs on who did.
        book = (
            ONE,
            (
                ("a", (("ask", (1, 2), (("c", 1),)), ("back", "c"))),
                ("a", (("ask", (2,), (("c", 1),)), ("say", "b", (2,)), ("back", "c"))),
                ("a", (("say", "b", (1,)), ("back", "c"))),
            ),
        )
        over = self.looked(book, 8)
        self.assertEqual(sorted(over), [("a", "a", "b", "c", "b", "c"), ("a", "b", "c")])

    def test_held_against_all_runs(self):
        seen = 0
        for seed in range(300):
            sheet, most = ((ONE, 7), (TWO, 4), (BARE, 8))[seed % 3]
            seen += len(self.looked(some_book(seed, sheet, 1 + seed % 4, 2 + seed % 3), most)) > 1
        self.assertGreater(seen, 45)

    def test_the_greatest_books(self):
        for seed in range(10):
            book = some_book(seed, ONE, 4, 8)
            self.assertTrue(is_book(book))
            self.assertEqual(machine_of(book)[1], 32)
            self.looked(book, 5)


if __name__ == "__main__":
    unittest.main()
