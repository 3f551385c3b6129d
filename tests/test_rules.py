import unittest

from echohall.errands import machine_of, run_of
from echohall.errors import NoSheet, TooLong, TooMany
from echohall.put import joined, met, turned
from echohall.rules import keeps, shows_keeps
from echohall.tellings import machine_by, telling
from echohall.within import within
from tests.books import (
    AT_ONCE,
    CALLER,
    CHOOSER,
    NEVER_OVER,
    plain_broken,
    plain_courses,
    plain_runs,
    plain_shows_keeps,
    some_book,
    words_over,
)
from tests.helps import (
    BARE,
    EVEN_TOLD,
    ONE,
    TWO,
    all_moves,
    in_order,
    kept,
    machine_of_plains,
    plain_lets,
    refused,
    some_machine,
    word_key,
)

EVERY = {sheet: (sheet, 1, 1, (0,), (0,), tuple(all_moves(sheet, 1, 1))) for sheet in (ONE, BARE, TWO)}
NO_WORD = (ONE, 1, 0, (0,), (), ())
# An even number of plains, and no pairs.
EVEN = (ONE, 2, 0, (0,), (0,), (("plain", 0, "b", 1), ("plain", 1, "b", 0)))
# Only the plains of the outermost level are told apart: no more than one.
FEW = (
    ONE,
    3,
    2,
    (0,),
    (0, 1),
    (
        ("close", 2, 0, "c", 0),
        ("close", 2, 1, "c", 1),
        ("open", 0, "a", 0, 2),
        ("open", 1, "a", 1, 2),
        ("open", 2, "a", 0, 2),
        ("plain", 0, "b", 1),
        ("plain", 2, "b", 2),
    ),
)


def told_or_refused(book, rule, limit, most):
    try:
        return keeps(book, rule, limit, most)
    except (TooMany, TooLong) as refusal:
        return refusal


class Keeps(unittest.TestCase):
    def looked(self, book, rule, limit=60, most=400):
        """All that point 27 says of one book and one rule; tells what was told."""
        courses = plain_courses(book, rule)
        if len(courses) > limit:
            refused(self, TooMany, keeps, book, rule, limit, most)
            return None
        worst = plain_broken(book, rule, courses)
        if worst is not None and len(worst) > most:
            self.assertEqual(refused(self, TooLong, keeps, book, rule, limit, most).size, len(worst))
            return None
        told = kept(self, keeps, book, rule, limit, most)
        self.assertEqual((type(told), len(told), type(told[1])), (tuple, 2, list))
        if worst is None:
            self.assertEqual(told[0], "keeps")
            self.assertTrue(kept(self, shows_keeps, book, rule, told[1]))
            self.assertTrue(plain_shows_keeps(book, rule, told[1]))
            self.assertTrue(all(type(row) is tuple and type(row[2]) is tuple for row in told[1]))
        else:
            self.assertEqual(told[0], "breaks")
            self.assertEqual(run_of(book, told[1]), (worst, True))
            self.assertFalse(plain_lets(rule, worst))
        return told

    def test_by_hand(self):
        self.assertEqual(self.looked(CALLER, EVERY[ONE])[0], "keeps")
        # The least run: it says b, asks errand 1, which says b and is back.
        self.assertEqual(self.looked(CALLER, NO_WORD), ("breaks", [1, 1, 1, 0]))
        self.assertEqual(self.looked(CALLER, EVEN), ("breaks", [1, 1, 1, 0]))
        # Just one plain on the outermost level is let by, two aren't.
        told = self.looked(CALLER, FEW)
        self.assertEqual(run_of(CALLER, told[1])[0], ["b", "b", "a", "b", "c"])
        self.assertEqual(self.looked(AT_ONCE, NO_WORD), ("breaks", []))
        self.assertEqual(self.looked(AT_ONCE, EVEN)[0], "keeps")

    def test_a_book_with_no_run_that_is_over_keeps_each_rule(self):
        for rule in (NO_WORD, EVEN, FEW, EVERY[ONE]):
            self.assertEqual(self.looked(NEVER_OVER, rule)[0], "keeps")

    def test_held_against_all_courses(self):
        seen = {"keeps": 0, "breaks": 0, None: 0}
        for seed in range(260):
            sheet = (ONE, TWO, BARE)[seed % 3]
            book = some_book(seed, sheet, 1 + seed % 4, 2 + seed % 3)
            rule = some_machine(seed, sheet, 1 + seed % 3, 1 + seed % 2, 2 + seed % 3)
            told = self.looked(book, rule, 6 + seed // 3 % 8)
            seen[told and told[0]] += 1
        self.assertTrue(all(many > 20 for many in seen.values()), seen)

    def test_held_against_all_runs(self):
        seen = 0
        for seed in range(240):
            sheet, most = ((ONE, 7), (TWO, 4), (BARE, 8))[seed % 3]
            book = some_book(seed, sheet, 1 + seed % 3, 3)
            rule = some_machine(seed + 7, sheet, 2, 1, 2)
            told = told_or_refused(book, rule, 60, 400)
            if not isinstance(told, tuple):
                continue
            wrong = [list(word) for word in words_over(book, most) if not plain_lets(rule, word)]
            if told[0] == "keeps":
                self.assertEqual(wrong, [])
                continue
            word, over = run_of(book, told[1])
            self.assertTrue(over)
            if wrong or len(word) <= most:
                self.assertEqual(word, in_order(sheet, wrong)[0])
                seen += 1
        self.assertGreater(seen, 30)

    def test_the_least_by_the_order_of_the_sheet(self):
        # The run may say m or dot, z .. down or up .. y: z is the least, though last in the alphabet.
        rows = (("ask", (1, 2), (("down", 1), ("y", 1))), ("back", "y"))
        book = (TWO, (("z", rows), ("up", (("back", "y"),)), ("z", (("back", "down"),))))
        told = self.looked(book, (TWO, 1, 0, (0,), (), ()))
        self.assertEqual(run_of(book, told[1])[0], ["z", "down"])
        # Fewer letters go first, whatever letters they are.
        rows = (("ask", (0,), (("y", 1),)), ("back", "y"))
        book = (TWO, (("z", (("say", "dot", (1,)), ("back", "y"), ("ask", (1,), (("y", 1),)))), ("z", rows)))
        self.assertEqual(run_of(book, self.looked(book, (TWO, 1, 0, (0,), (), ()))[1])[0], ["dot"])

    def test_any_choices_of_the_least_word(self):
        # Two ways to say the same word, one of them by a choice further behind.
        book = (ONE, (("a", (("say", "b", (1, 2)), ("say", "b", (2,)), ("back", "c"))),))
        self.assertEqual(run_of(book, self.looked(book, NO_WORD)[1]), (["b"], True))
        odd = machine_of_plains(ONE, [1], None)
        self.assertEqual(run_of(book, self.looked(book, odd)[1]), (["b", "b"], True))

    def test_limits(self):
        seen = 0
        for seed in range(260):
            sheet = (ONE, TWO, BARE)[seed % 3]
            book = some_book(seed, sheet, 1 + seed % 3, 2 + seed % 3)
            rule = some_machine(seed + 3, sheet, 2, 1, 2)
            many = len(plain_courses(book, rule))
            if many > 40:
                continue
            self.assertIn(keeps(book, rule, many)[0], ("keeps", "breaks"))
            self.assertEqual(keeps(book, rule, limit=many, most=400), keeps(book, rule, many, 400))
            if many > 1:
                refused(self, TooMany, keeps, book, rule, many - 1)
                refused(self, TooMany, keeps, book, rule, limit=many - 1)
            # A table is a list of all these courses, where none more is told.
            told = keeps(book, rule, many)
            if told[0] == "keeps":
                self.assertEqual(sorted(set(told[1])), sorted(plain_courses(book, rule)))
            # Without a limit as by 16.
            if many <= 16:
                self.assertEqual(keeps(book, rule), keeps(book, rule, 16, 400))
                seen += many > 10
            else:
                refused(self, TooMany, keeps, book, rule)
        self.assertGreater(seen, 5)

    def test_16_and_17_courses(self):
        for many in (15, 16, 17):
            rule = machine_of_plains(ONE, range(many), None)
            # A loop of one plain: a stretch for each number of plains up to the last, and an empty one.
            book = (ONE, (("a", (("say", "b", (0,)),)),))
            self.assertEqual(len(plain_courses(book, rule)), many + 1)
            if many + 1 <= 16:
                self.assertEqual(keeps(book, rule)[0], "keeps")
            else:
                refused(self, TooMany, keeps, book, rule)

    def test_errands_that_nobody_asks_count(self):
        lone = (ONE, AT_ONCE[1] + (("a", (("say", "b", (1,)), ("say", "b", (2,)), ("back", "c"))),))
        self.assertEqual(len(plain_courses(lone, EVERY[ONE])), 4)
        self.assertEqual(keeps(lone, EVERY[ONE], 4)[0], "keeps")
        refused(self, TooMany, keeps, lone, EVERY[ONE], 3)

    def test_too_long(self):
        # A word of 8 plains at least.
        rows = tuple(("say", "b", (at + 1,)) for at in range(7)) + (("back", "c"),)
        book = (ONE, (("a", rows),))
        for most in (7, 8, 400):
            self.looked(book, NO_WORD, 60, most)
        self.assertEqual(refused(self, TooLong, keeps, book, NO_WORD, most=6).size, 7)
        self.assertEqual(keeps(book, NO_WORD, most=7), ("breaks", [0] * 7))
        # Where the rule is kept nothing is too long.
        self.assertEqual(keeps(book, EVERY[ONE], most=1)[0], "keeps")
        # The least word of all is not asked after, but that which isn't let by.
        short = machine_of_plains(ONE, [0, 1, 2], None)
        loop = (ONE, (("a", (("say", "b", (0, 1)), ("back", "c"))),))
        self.assertEqual(refused(self, TooLong, keeps, loop, short, most=2).size, 3)
        self.assertEqual(run_of(loop, keeps(loop, short, most=3)[1]), (["b"] * 3, True))

    def test_too_many_goes_ahead_of_too_long(self):
        rows = tuple(("say", "b", (at + 1,)) for at in range(7)) + (("back", "c"),)
        book = (ONE, (("a", rows),))
        refused(self, TooMany, keeps, book, NO_WORD, 7, 1)
        self.assertEqual(refused(self, TooLong, keeps, book, NO_WORD, 8, 1).size, 7)

    def test_words_of_very_many_letters(self):
        # Each errand asks the next one seven times, one behind the other: 2 * (7 + 49 + 343) letters.
        def asks(f):
            return tuple(("ask", (f,), (("c", at + 1),)) for at in range(7)) + (("back", "c"),)

        book = (ONE, (("a", asks(1)), ("a", asks(2)), ("a", asks(3)), ("a", (("back", "c"),))))
        rule = (ONE, 1, 0, (0,), (), ())
        self.assertEqual(len(plain_courses(book, rule)), 25)
        self.assertEqual(refused(self, TooLong, keeps, book, rule, 25).size, 798)
        refused(self, TooMany, keeps, book, rule, 24)
        two = (ONE, (("a", asks(1)), ("a", asks(2)), ("a", (("back", "c"),))))
        told = keeps(two, rule, 60)
        word, over = run_of(two, told[1])
        self.assertEqual((len(told[1]), len(word), over), (112, 112, True))
        self.assertEqual(refused(self, TooLong, keeps, two, rule, 60, 111).size, 112)
        self.assertEqual(keeps(two, rule, 60, 112), told)

    def test_400_and_401_letters(self):
        # Each errand asks the next one so often: 4 * (2 + 7 * (2 + 3 * (2 + 2))) letters, or one plain more.
        def asks(many, other, more):
            rows = [("ask", (other,), (("c", at + 1),)) for at in range(many)]
            return ("a", tuple(rows + [("say", "b", (many + 1,))] * more + [("back", "c")]))

        last = ("a", (("say", "b", (1,)), ("say", "b", (2,)), ("back", "c")))
        for more in range(2):
            book = (ONE, (asks(4, 1, more), asks(7, 2, 0), asks(3, 3, 0), last))
            self.assertEqual(refused(self, TooLong, keeps, book, NO_WORD, 60, 399).size, 400 + more)
            if more:
                self.assertEqual(refused(self, TooLong, keeps, book, NO_WORD, 60).size, 401)
            else:
                told = keeps(book, NO_WORD, 60)
                self.assertEqual(told, keeps(book, NO_WORD, 60, 400))
                word, over = run_of(book, told[1])
                self.assertEqual((len(word), over), (400, True))

    def test_no_sheet(self):
        refused(self, NoSheet, keeps, CALLER, EVERY[TWO])
        refused(self, NoSheet, keeps, CALLER, EVERY[BARE], 1, 1)
        refused(self, NoSheet, keeps, CHOOSER, NO_WORD, 1, 1)
        refused(self, TooMany, keeps, CALLER, NO_WORD, 1, 1)

    def test_by_the_machine_of_the_book(self):
        # A book keeps a rule just where its machine lies within the rule.
        seen = {"keeps": 0, "breaks": 0}
        for seed in range(60):
            book = some_book(seed, ONE, 1 + seed % 2, 3)
            rule = some_machine(seed + 11, ONE, 2, 1, 2)
            try:
                here, there = keeps(book, rule, 60), within(machine_of(book), rule, 60)
            except TooMany:
                continue
            seen[here[0]] += 1
            if here[0] == "keeps":
                self.assertEqual(there[0], "within")
            else:
                self.assertEqual(there, ("word", run_of(book, here[1])[0]))
        self.assertTrue(all(many > 5 for many in seen.values()), seen)

    def test_rules_that_are_told(self):
        told = machine_by(telling(machine_of_plains(ONE, [9], None)))
        self.assertGreater(told[1], 10)
        rows = tuple(("say", "b", (at + 1,)) for at in range(7)) + (("back", "c"),)
        self.assertEqual(keeps((ONE, (("a", rows),)), turned(told))[0], "keeps")
        both = joined(met(EVEN, machine_by(EVEN_TOLD)), FEW)
        self.assertEqual(self.looked(CALLER, both)[0], "breaks")

    def test_what_is_told_is_the_askers_own(self):
        keeps(CALLER, NO_WORD)[1].append(7)
        keeps(CALLER, EVERY[ONE])[1].clear()
        self.assertEqual(keeps(CALLER, NO_WORD), ("breaks", [1, 1, 1, 0]))
        self.assertTrue(shows_keeps(CALLER, EVERY[ONE], keeps(CALLER, EVERY[ONE])[1]))


class ShowsKeeps(unittest.TestCase):
    def both(self, book, rule, table):
        told = kept(self, shows_keeps, book, rule, table)
        self.assertIs(told, plain_shows_keeps(book, rule, table), table)
        return told

    def some_tables(self):
        found = []
        for seed in range(120):
            sheet = (ONE, TWO, BARE)[seed % 3]
            book = some_book(seed, sheet, 1 + seed % 3, 2 + seed % 3)
            rule = some_machine(seed + 5, sheet, 2, 1 + seed % 2, 2)
            told = told_or_refused(book, rule, 20, 400)
            if isinstance(told, tuple) and told[0] == "keeps":
                found.append((book, rule, told[1]))
        self.assertGreater(len(found), 25)
        return found

    def test_each_tuple_left_out(self):
        for book, rule, table in self.some_tables():
            for at in range(len(table)):
                self.assertFalse(self.both(book, rule, table[:at] + table[at + 1 :]))
            self.assertFalse(self.both(book, rule, []))

    def test_another_order_and_tuples_twice(self):
        for book, rule, table in self.some_tables():
            self.assertTrue(self.both(book, rule, table[::-1]))
            self.assertTrue(self.both(book, rule, table + table))

    def test_tuples_more(self):
        seen = {True: 0, False: 0}
        for book, rule, table in self.some_tables():
            rooms = range(rule[1])
            for e, errand in enumerate(book[1]):
                for r in range(len(errand[1])):
                    for pairs in ((), ((0, 0),), tuple((p, q) for p in rooms for q in rooms)):
                        told = self.both(book, rule, table + [(e, r, pairs)])
                        seen[told] += (e, r, pairs) not in table
        self.assertTrue(all(many > 20 for many in seen.values()), seen)

    def test_rows_and_errands_that_there_aren_t(self):
        table = keeps(CALLER, EVERY[ONE])[1]
        self.assertTrue(self.both(CALLER, EVERY[ONE], table))
        pairs = ((0, 0),)
        for e, r in ((2, 0), (-1, 0), (7, 7), (10**30, 0), (0, 3), (0, -1), (1, 2), (1, 10**30)):
            self.assertFalse(self.both(CALLER, EVERY[ONE], table + [(e, r, pairs)]))

    def test_pairs_that_aren_t_rising_or_no_rooms(self):
        rule = (ONE, 2, 1, (0, 1), (0, 1), tuple(all_moves(ONE, 2, 1)))
        table = keeps(CALLER, rule)[1]
        self.assertTrue(self.both(CALLER, rule, table))
        for pairs in (
            ((0, 1), (0, 0)),
            ((0, 0), (0, 0)),
            ((1, 0), (0, 1)),
            ((0, 0), (0, 2)),
            ((0, 0), (2, 0)),
            ((-1, 0), (0, 0)),
            ((0, 0), (0, 10**30)),
        ):
            self.assertFalse(self.both(CALLER, rule, table + [(1, 0, pairs)]))
            # Neither do they stand for the pairs that are wanted.
            for at in range(len(table)):
                changed = table[:at] + [table[at][:2] + (pairs,)] + table[at + 1 :]
                self.assertFalse(self.both(CALLER, rule, changed))
        backwards = [(e, r, pairs[::-1]) for e, r, pairs in table]
        self.assertFalse(self.both(CALLER, rule, backwards))

    def test_a_back_of_errand_0_that_breaks_the_rule(self):
        # A right table of a rule is none of the same rule with other last rooms.
        rows = (("say", "b", (0, 1)), ("back", "c"))
        book = (ONE, (("a", rows),))
        all_last, one_last = EVEN[:4] + ((0, 1),) + EVEN[5:], EVEN
        table = keeps(book, all_last)[1]
        self.assertTrue(self.both(book, all_last, table))
        self.assertFalse(self.both(book, one_last, table))
        self.assertFalse(self.both(book, NO_WORD[:1] + (2,) + NO_WORD[2:5] + EVEN[5:], table))
        # A back of another errand may have any pairs.
        other = (ONE, AT_ONCE[1] + (("a", (("say", "b", (1,)), ("back", "c"))),))
        table = keeps(other, EVEN)[1]
        self.assertIn((1, 1, ((0, 1), (1, 0))), table)
        self.assertTrue(self.both(other, EVEN, table))

    def test_no_sheet(self):
        refused(self, NoSheet, shows_keeps, CALLER, EVERY[TWO], [])
        refused(self, NoSheet, shows_keeps, CHOOSER, EVERY[ONE], [(9, 9, ())])

    def test_a_table_of_another_book_or_rule(self):
        tables = self.some_tables()
        for (book, rule, table), (other, another, wrong) in zip(tables, tables[1:]):
            if book[0] == another[0]:
                self.both(book, another, table)
            if book[0] == other[0]:
                self.both(book, rule, wrong)

    def test_a_long_table(self):
        # Many stretches that no word has: all of them follow from one another.
        rows = (("say", "b", (0, 1)), ("back", "c"))
        book = (ONE, (("a", rows),))
        rule = (ONE, 3, 0, (0, 1, 2), (0, 1, 2), tuple(("plain", p, "b", p) for p in range(3)))
        grid = [(p, q) for p in range(3) for q in range(3)]
        sets = [tuple(pair for at, pair in enumerate(grid) if bits >> at & 1) for bits in range(1, 512)]
        table = [(0, r, pairs) for r in range(2) for pairs in sets]
        self.assertTrue(shows_keeps(book, rule, table))
        self.assertFalse(shows_keeps(book, rule, table[:700] + table[701:]))
        self.assertFalse(shows_keeps(book, rule, table + [(0, 1, ())]))


class PlainHelps(unittest.TestCase):
    def test_least_words_of_courses_are_those_of_runs(self):
        # The plain ways by which the others are judged agree with one another.
        for seed in range(40):
            book = some_book(seed, ONE, 2, 3)
            rule = some_machine(seed, ONE, 2, 1, 2)
            found = plain_courses(book, rule)
            runs = [word for choices, word, over in plain_runs(book, 5) if over]
            for word in runs:
                self.assertTrue(any(word_key(ONE, least) <= word_key(ONE, word) for least in found.values()))


if __name__ == "__main__":
    unittest.main()
