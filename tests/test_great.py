import copy
import unittest

from echohall.errors import TooMany
from echohall.great import (
    answer_at,
    deepest_of,
    is_great,
    length_of,
    letter_at,
    many_of,
    written,
)
from echohall.nests import answers, depth_of
from tests.helps import BARE, ONE, TWO, kept, plain_written, refused, some_great

B = ("word", ("b",))
NONE = ("word", ())
HUGE = 10**60


def nested(many):
    """So many great words within one another."""
    great = B
    for _ in range(many - 1):
        great = ("again", 1, great)
    return great


class IsGreat(unittest.TestCase):
    def told(self, thing, good, sheet=ONE):
        self.assertIs(kept(self, is_great, sheet, thing), good)

    def test_words(self):
        for letters in ((), ("b",), ("a", "c"), ("a", "b", "c", "b"), ("b",) * 60, ("a",) * 30 + ("c",) * 30):
            self.told(("word", letters), True)
        for letters in (("b",) * 61, ("a",) * 31 + ("c",) * 31):
            self.told(("word", letters), False)
        for letters in (("a",), ("c",), ("c", "a"), ("a", "c", "c"), ("a", "a", "c")):
            self.told(("word", letters), False)
        for letters in (("x",), ("",), ("B",), ("b", "bb"), (None,), (0,), (("b",),), (["b"],), (True,)):
            self.told(("word", letters), False)
        for letters in (["b"], [], "", "b", None, 0, {}):
            self.told(("word", letters), False)
        self.told(("word", ("z", "m", "down")), True, TWO)
        self.told(("word", ("b",)), False, BARE)

    def test_rows(self):
        for many in range(0, 11):
            self.told(("row", (B,) * many), many <= 8)
        for parts in ([], [B], None, 0, "row", (0,), ((),), (B, ("word",)), (B, [*B]), B, (B, ("word", ("a",)))):
            self.told(("row", parts), False)

    def test_times(self):
        for n, good in ((0, True), (1, True), (HUGE - 1, True), (HUGE, True), (HUGE + 1, False), (-1, False)):
            self.told(("again", n, B), good)
            self.told(("wrap", n, "a", B, "c"), good)
        for n in (True, False, None, "1", (1,), [1], (), HUGE * 10, -HUGE):
            self.told(("again", n, B), False)
            self.told(("wrap", n, "a", B, "c"), False)

    def test_letters_of_wraps(self):
        for a in ("a", "b", "c", "x", "", None, 0, True, ("a",), ["a"]):
            self.told(("wrap", 1, a, B, "c"), a == "a")
        for c in ("a", "b", "c", "x", "", None, 0, True, ("c",), ["c"]):
            self.told(("wrap", 1, "a", B, c), c == "c")
        self.told(("wrap", 0, "x", B, "c"), False)
        for a in ("z", "up"):
            for c in ("y", "down"):
                self.told(("wrap", 2, a, NONE, c), True, TWO)

    def test_parts_that_arent_great(self):
        for part in (None, 0, "word", (), [], list(B), ("word", ("a",)), ("word", ("x",)), ("none", B)):
            self.told(("again", 1, part), False)
            self.told(("again", 0, part), False)
            self.told(("wrap", 1, "a", part, "c"), False)
            self.told(("row", (B, part)), False)

    def test_ten_within_one_another(self):
        for many in range(1, 14):
            self.told(nested(many), many <= 10)
            self.told(("row", (B, nested(many - 1) if many > 1 else B)), many <= 10)
            self.told(("wrap", 0, "a", nested(many), "c"), many <= 9)
        nine = ("row", ())
        for _ in range(9):
            nine = ("row", (nine,))
        self.told(nine, True)
        self.told(("row", (nine,)), False)

    def test_forty_in_all(self):
        row = ("row", (B,) * 8)
        for more in range(0, 5):
            # Itself, four rows, their words and those beside them.
            self.told(("row", (row,) * 4 + (B,) * more), 1 + 4 * 9 + more <= 40)
        self.told(("again", 2, ("row", (row,) * 4 + (B,) * 2)), True)
        self.told(("again", 2, ("row", (row,) * 4 + (B,) * 3)), False)
        # Parts that are one thing in memory count as often as they stand there.
        doubled = B
        for _ in range(9):
            doubled = ("row", (doubled,) * 8)
        self.assertIs(is_great(ONE, doubled), False)

    def test_other_forms(self):
        for thing in (
            ("word",),
            ("word", (), ()),
            ("row",),
            ("row", (), ()),
            ("again", 1),
            ("again", B),
            ("again", B, 1),
            ("again", 1, B, B),
            ("wrap", 1, "a", B),
            ("wrap", 1, "a", B, "c", 1),
            ("wrap", "a", B, "c"),
            ("wrap", 1, B, "a", "c"),
            ("unwrap", 1, "a", B, "c"),
            ("again", 1, "a", B, "c"),
            ("Word", ()),
            ("words", ()),
            (None, ()),
            (["word"], ()),
            (("word",), ()),
            ["word", ("b",)],
            ["again", 1, B],
            (),
            [],
            None,
            0,
            True,
            "word",
            "row",
        ):
            self.told(thing, False)

    def test_things_deep_within_one_another(self):
        deep, lists = (), []
        for _ in range(23):
            deep, lists = (deep,), [lists]
        for thing in (deep, lists, ("row", deep), ("row", (lists,)), ("word", deep), ("word", (lists,))):
            self.told(thing, False)
        self.told(("wrap", 1, lists, B, "c"), False)
        self.told(("again", deep, B), False)
        self.told(nested(23), False)
        self.told((0,) * 3000, False)
        self.told(("word", ("b",) * 2900), False)

    def test_some_made_ones(self):
        for seed in range(50):
            sheet = (ONE, BARE, TWO)[seed % 3]
            self.told(some_great(seed, sheet, deep=3), True, sheet)


class Sizes(unittest.TestCase):
    def test_held_against_the_written_word(self):
        for seed in range(300):
            sheet = (ONE, BARE, TWO)[seed % 3]
            great = some_great(seed, sheet)
            word = plain_written(great)
            self.assertEqual(kept(self, length_of, great), len(word))
            self.assertEqual(kept(self, deepest_of, sheet, great), depth_of(sheet, word))
            for letter in sheet[0] + sheet[1] + sheet[2] + ("x", ""):
                self.assertEqual(kept(self, many_of, great, letter), word.count(letter))

    def test_great_counts_within_great_counts(self):
        great = ("again", HUGE, ("wrap", HUGE, "a", ("again", HUGE, ("word", ("a", "b", "b", "c"))), "c"))
        self.assertEqual(length_of(great), HUGE * (2 * HUGE + 4 * HUGE))
        self.assertEqual(deepest_of(ONE, great), HUGE + 1)
        self.assertEqual(many_of(great, "a"), 2 * HUGE * HUGE)
        self.assertEqual(many_of(great, "b"), 2 * HUGE * HUGE)
        self.assertEqual(many_of(great, "c"), 2 * HUGE * HUGE)
        self.assertEqual(many_of(great, "x"), 0)
        great = B
        for _ in range(9):
            great = ("again", HUGE, great)
        self.assertIs(is_great(ONE, great), True)
        self.assertEqual(length_of(great), HUGE**9)
        self.assertEqual((deepest_of(ONE, great), many_of(great, "b"), many_of(great, "a")), (0, HUGE**9, 0))
        for _ in range(9):
            great = ("wrap", HUGE, "a", great, "c")
        self.assertEqual((deepest_of(ONE, great), many_of(great, "a")), (9 * HUGE, 9 * HUGE))

    def test_counts_of_0(self):
        inner = ("wrap", HUGE, "a", B, "c")
        for great in (("again", 0, inner), ("row", ()), NONE, ("again", HUGE, NONE), ("wrap", 0, "a", NONE, "c")):
            self.assertEqual((length_of(great), deepest_of(ONE, great), many_of(great, "a")), (0, 0, 0))
        great = ("wrap", 0, "a", inner, "c")
        self.assertEqual((length_of(great), deepest_of(ONE, great)), (2 * HUGE + 1, HUGE))
        self.assertEqual((many_of(great, "a"), many_of(great, "c"), many_of(great, "b")), (HUGE, HUGE, 1))
        great = ("row", (("again", 0, inner), ("word", ("a", "c"))))
        self.assertEqual((length_of(great), deepest_of(ONE, great), many_of(great, "a")), (2, 1, 1))

    def test_the_deepest_of_a_row(self):
        parts = [("wrap", deep, "a", NONE, "c") for deep in (3, HUGE, 5)]
        self.assertEqual(deepest_of(ONE, ("row", tuple(parts))), HUGE)
        self.assertEqual(deepest_of(ONE, ("row", (parts[0], parts[2]))), 5)


class Places(unittest.TestCase):
    def test_each_place_of_small_ones(self):
        for seed in range(300):
            sheet = (ONE, BARE, TWO)[seed % 3]
            great = some_great(seed, sheet)
            word = plain_written(great)
            told = answers(sheet, word)
            for place in range(min(len(word), 200)):
                self.assertEqual(kept(self, letter_at, great, place), word[place])
                self.assertEqual(kept(self, answer_at, sheet, great, place), told[place])
            for place in (len(word), len(word) + 1, HUGE):
                self.assertIsNone(letter_at(great, place))
                self.assertIsNone(answer_at(sheet, great, place))

    def test_no_letters(self):
        for great in (NONE, ("row", ()), ("again", HUGE, NONE), ("again", 0, B), ("again", HUGE, ("again", 0, B))):
            for place in (0, 1, HUGE):
                self.assertIsNone(letter_at(great, place))
                self.assertIsNone(answer_at(ONE, great, place))

    def test_first_last_and_middle_places_of_wraps(self):
        great = ("wrap", HUGE, "a", ("word", ("b", "a", "c")), "c")
        size = 2 * HUGE + 3
        want = {
            0: ("a", size - 1),
            1: ("a", size - 2),
            HUGE // 2: ("a", size - 1 - HUGE // 2),
            HUGE - 1: ("a", HUGE + 3),
            HUGE: ("b", None),
            HUGE + 1: ("a", HUGE + 2),
            HUGE + 2: ("c", HUGE + 1),
            HUGE + 3: ("c", HUGE - 1),
            size - 2: ("c", 1),
            size - 1: ("c", 0),
            size: (None, None),
            size + HUGE: (None, None),
        }
        for place, both in want.items():
            self.assertEqual((letter_at(great, place), answer_at(ONE, great, place)), both)

    def test_places_of_great_counts(self):
        part = ("word", ("a", "b", "c"))
        great = ("again", HUGE, part)
        for k in (0, 1, HUGE // 3, HUGE - 1):
            self.assertEqual([letter_at(great, 3 * k + at) for at in range(3)], ["a", "b", "c"])
            told = [answer_at(ONE, great, 3 * k + at) for at in range(3)]
            self.assertEqual(told, [3 * k + 2, None, 3 * k])
        self.assertEqual((letter_at(great, 3 * HUGE), answer_at(ONE, great, 3 * HUGE)), (None, None))

    def test_joins(self):
        great = ("row", (("again", HUGE, B), NONE, ("wrap", HUGE, "a", NONE, "c"), ("again", 0, B), B))
        want = {
            HUGE - 1: ("b", None),
            HUGE: ("a", 3 * HUGE - 1),
            2 * HUGE - 1: ("a", 2 * HUGE),
            2 * HUGE: ("c", 2 * HUGE - 1),
            3 * HUGE - 1: ("c", HUGE),
            3 * HUGE: ("b", None),
            3 * HUGE + 1: (None, None),
        }
        for place, both in want.items():
            self.assertEqual((letter_at(great, place), answer_at(ONE, great, place)), both)

    def test_great_counts_ten_within_one_another(self):
        great = ("word", ("a", "c"))
        for at in range(9):
            great = ("again", HUGE, great) if at % 2 else ("wrap", HUGE, "a", great, "c")
        size = length_of(great)
        self.assertGreater(size, HUGE**5)
        for place in (0, 1, HUGE, size // 2, size // 3, size - HUGE, size - 1):
            other = answer_at(ONE, great, place)
            self.assertEqual(answer_at(ONE, great, other), place)
            self.assertEqual({letter_at(great, place), letter_at(great, other)}, {"a", "c"})
            self.assertEqual(letter_at(great, min(place, other)), "a")


class Written(unittest.TestCase):
    def test_held_against_the_plain_way(self):
        for seed in range(300):
            sheet = (ONE, BARE, TWO)[seed % 3]
            great = some_great(seed, sheet)
            word = plain_written(great)
            if len(word) <= 400:
                self.assertEqual(kept(self, written, great), word)
            else:
                refused(self, TooMany, written, great)

    def test_400_letters_and_401(self):
        self.assertEqual(written(("again", 400, B)), ["b"] * 400)
        refused(self, TooMany, written, ("again", 401, B))
        self.assertEqual(written(("wrap", 200, "a", NONE, "c")), ["a"] * 200 + ["c"] * 200)
        refused(self, TooMany, written, ("wrap", 200, "a", B, "c"))
        self.assertEqual(written(("row", (("again", 399, B), B))), ["b"] * 400)
        refused(self, TooMany, written, ("row", (("again", 400, B), B)))
        refused(self, TooMany, written, ("again", HUGE, B))
        refused(self, TooMany, written, ("wrap", HUGE, "a", NONE, "c"))

    def test_no_letters_however_great_the_counts_within(self):
        huge = ("again", HUGE, ("wrap", HUGE, "a", B, "c"))
        for great in (
            NONE,
            ("row", ()),
            ("row", (NONE, ("row", ()))),
            ("again", HUGE, NONE),
            ("again", HUGE, ("again", HUGE, ("row", (NONE, NONE)))),
            ("again", 0, huge),
            ("again", HUGE, ("again", 0, huge)),
            ("again", HUGE, ("wrap", 0, "a", ("again", 0, huge), "c")),
            ("wrap", 0, "a", ("again", HUGE, NONE), "c"),
        ):
            self.assertEqual(written(great), [])
        self.assertEqual(written(("row", (B, ("again", 0, huge), ("again", HUGE, NONE), B))), ["b", "b"])
        self.assertEqual(written(("wrap", 2, "a", ("again", HUGE, NONE), "c")), ["a", "a", "c", "c"])

    def test_what_is_told_is_the_askers_own(self):
        great = ("row", (B, ("again", 2, B)))
        before = copy.deepcopy(great)
        told = written(great)
        told.append("x")
        written(("row", ())).append("x")
        self.assertEqual(great, before)
        self.assertEqual(written(great), ["b"] * 3)
        self.assertEqual(written(("row", ())), [])


if __name__ == "__main__":
    unittest.main()
