import unittest

from echohall.errors import NoLetter
from echohall.sayings import is_saying, truths
from tests.helps import BARE, ONE, TWO, all_words, kept, long_word, refused
from tests.said import HEADS, all_within, nested, plain_truths, some_saying

A, B, C = ("is", "a"), ("is", "b"), ("is", "c")
# A letter that isn't there makes none of the others so.
SOME = ("not", ("both", A, ("not", A)))


def row_of(head, parts):
    return (head,) + (("a",) if head == "is" else (B,) * parts)


def both_of(many):
    """A saying of just so many in all (an odd number), as flat as it goes."""
    rows = [B] * ((many + 1) // 2)
    while len(rows) > 1:
        rows = [("both",) + tuple(rows[at : at + 2]) if at + 1 < len(rows) else rows[at] for at in range(0, len(rows), 2)]
    return rows[0]


class Sayings(unittest.TestCase):
    def good(self, thing, sheet=ONE):
        self.assertIs(kept(self, is_saying, sheet, thing), True, thing)

    def bad(self, thing, sheet=ONE):
        self.assertIs(kept(self, is_saying, sheet, thing), False, thing)

    def test_each_head_with_parts_more_and_less(self):
        for head, many in HEADS.items():
            right = row_of(head, many)
            self.good(right)
            self.bad(right + (B,))
            self.bad(right + ("a",))
            self.bad(right + (None,))
            self.bad(right[:-1])
            self.bad((head,))
            self.bad(right[1:])
            self.bad((head.upper(),) + right[1:])

    def test_heads_that_are_none(self):
        for head in ("", "Is", "or", "either", "open", "plain", 0, 1, None, True, ("is",), ["is"], [], ("not",), ((),)):
            for parts in ((), ("a",), (B,), (B, B)):
                self.bad((head,) + parts)

    def test_letters(self):
        for letter in TWO[0] + TWO[1] + TWO[2]:
            self.good(("is", letter), TWO)
        for letter in ("a", "", "Z", "zz", 0, None, True, ("z",), ["z"], B, [], ()):
            self.bad(("is", letter), TWO)
            self.bad(("not", ("is", letter)), TWO)
            self.bad(("both", ("is", "z"), ("is", letter)), TWO)
        self.bad(B, BARE)
        self.good(A, BARE)

    def test_parts_that_are_none(self):
        for head, many in HEADS.items():
            for wrong in ("a", "", None, 0, True, (), [], ["is", "a"], ("is",), ("is", "x"), ("is", "a", "b"), [B]):
                for at in range(many):
                    row = list(row_of(head, many))
                    row[1 + at] = wrong
                    self.bad(tuple(row))

    def test_lists_for_tuples(self):
        self.bad(["is", "a"])
        self.bad(["not", B])
        self.bad(("not", ["is", "b"]))
        self.bad(("since", B, ["not", B]))

    def test_eight_and_nine_within_one_another(self):
        for head in ("not", "ahead", "beside", "around"):
            for many in range(12):
                (self.good if many + 1 <= 8 else self.bad)(nested(head, many, B))
        deep = nested("not", 6, B)
        for head in ("both", "since", "level"):
            for saying in ((head, deep, B), (head, B, deep)):
                self.good(saying)
                self.bad(("not", saying))
            self.bad((head, ("not", deep), B))
            self.bad((head, B, ("not", deep)))

    def test_fifteen_and_sixteen_in_all(self):
        for many in (1, 3, 5, 7, 9, 11, 13, 15):
            self.assertEqual(len(all_within(both_of(many))), many)
            self.good(both_of(many))
        self.bad(both_of(17))
        self.bad(both_of(19))
        self.good(("not", both_of(13)))
        self.bad(("not", both_of(15)))
        seven = nested("ahead", 6, B)
        self.good(("both", seven, seven))
        self.bad(("both", seven, nested("ahead", 7, B)))
        self.good(("since", both_of(7), both_of(7)))
        self.bad(("since", both_of(7), ("not", both_of(7))))
        self.bad(("level", ("not", both_of(7)), both_of(7)))

    def test_some(self):
        for seed in range(60):
            sheet = (ONE, TWO, BARE)[seed % 3]
            self.good(some_saying(seed, sheet, 8, 15), sheet)

    def test_things_of_other_kinds(self):
        for thing in (None, True, False, 0, 7, -3, "", "is a", "is", "a\nb", [], (), [[]], ((),), (None,), ((), ())):
            self.bad(thing)
        self.bad(tuple(range(3000)))
        self.bad(("both", (B,) * 1000, B))
        for many in range(1, 25):
            deep = "a"
            for _ in range(many):
                deep = (deep,)
            self.bad(deep)
            self.bad(("not", deep))
            self.bad(("is", deep))
        self.bad(nested("not", 23, B))
        self.bad(nested("not", 23, []))


class Truths(unittest.TestCase):
    def told(self, word, saying, sheet=ONE):
        """The truths of a word of letters of one sign each, as a text of 1 and 0."""
        told = kept(self, truths, sheet, list(word), saying)
        self.assertTrue(all(type(truth) is bool for truth in told))
        return "".join("1" if truth else "0" for truth in told)

    def test_is_not_both(self):
        self.assertEqual(self.told("abcb", B), "0101")
        self.assertEqual(self.told("abcb", A), "1000")
        self.assertEqual(self.told("abcb", C), "0010")
        self.assertEqual(self.told("abcb", ("not", B)), "1010")
        self.assertEqual(self.told("abcb", ("both", ("not", A), ("not", B))), "0010")
        self.assertEqual(self.told("abcb", ("both", A, B)), "0000")

    def test_ahead(self):
        self.assertEqual(self.told("abcb", ("ahead", A)), "0100")
        self.assertEqual(self.told("abcb", ("ahead", B)), "0010")
        self.assertEqual(self.told("abcb", ("ahead", ("not", A))), "0011")
        # Where there is no place ahead it isn't so, whatever is asked; but not so it is.
        self.assertEqual(self.told("abcb", ("ahead", SOME)), "0111")
        self.assertEqual(self.told("abcb", ("not", ("ahead", SOME))), "1000")
        self.assertEqual(self.told("abcb", ("ahead", ("ahead", SOME))), "0011")

    def test_beside(self):
        # Places:                 0123456
        self.assertEqual(self.told("babbccb", ("beside", SOME)), "0101111")
        # Behind an open there is none; beside a close stands its open.
        self.assertEqual(self.told("abc", ("beside", SOME)), "001")
        self.assertEqual(self.told("abc", ("beside", A)), "001")
        self.assertEqual(self.told("abbc", ("beside", B)), "0010")
        self.assertEqual(self.told("abcb", ("beside", C)), "0001")
        self.assertEqual(self.told("baacbcb", ("beside", A)), "0001010")
        self.assertEqual(self.told("baacbcb", ("beside", B)), "0100000")
        self.assertEqual(self.told("baacbcb", ("beside", C)), "0000101")

    def test_around(self):
        self.assertEqual(self.told("abcb", ("around", A)), "0100")
        self.assertEqual(self.told("babcb", ("around", SOME)), "00100")
        self.assertEqual(self.told("aabcbcb", ("around", SOME)), "0111100")
        # The holder of a close is that of its open.
        self.assertEqual(self.told("aacc", ("around", SOME)), "0110")
        self.assertEqual(self.told("aabccb", ("around", ("around", SOME))), "001000")
        self.assertEqual(self.told("baabcc", ("around", ("ahead", B))), "001010")
        told = truths(TWO, ["up", "z", "m", "y", "dot", "down", "m"], ("around", ("is", "up")))
        self.assertEqual(told, [False, True, False, True, True, False, False])

    def test_since(self):
        # b since c: all b behind a c, and the c.
        self.assertEqual(self.told("bacbb", ("since", B, C)), "00111")
        self.assertEqual(self.told("acbab", ("since", B, C)), "01100")
        self.assertEqual(self.told("bbb", ("since", B, C)), "000")
        self.assertEqual(self.told("bbb", ("since", C, B)), "111")
        self.assertEqual(self.told("b" * 300 + "ac", ("since", SOME, A)), "0" * 300 + "11")
        self.assertEqual(self.told("a" + "b" * 300 + "c", ("since", SOME, A)), "1" * 302)
        self.assertEqual(self.told("a" + "b" * 300 + "cb", ("since", ("not", C), A)), "1" * 301 + "00")

    def test_level(self):
        # What stands within a pair isn't looked at.
        self.assertEqual(self.told("babcb", ("level", ("not", B), B)), "11111")
        self.assertEqual(self.told("babcbb", ("level", B, B)), "101011")
        self.assertEqual(self.told("caabccbb", ("level", SOME, C)), "11001111")
        self.assertEqual(self.told("acabcb", ("level", ("not", B), C)), "011010")
        # A new level begins behind an open.
        self.assertEqual(self.told("caac", ("level", SOME, C)), "1101")
        self.assertEqual(self.told("cab", ("level", SOME, C)), "110")
        pairs = "ab" * 100 + "c" * 100
        self.assertEqual(self.told("c" + pairs + "b", ("level", SOME, C)), "11" + "0" * 199 + "1" * 101)

    def test_bare_closes_and_opens_that_aren_t_answered(self):
        self.assertEqual(self.told("cc", ("beside", C)), "01")
        self.assertEqual(self.told("cbc", ("around", SOME)), "000")
        self.assertEqual(self.told("cbc", ("beside", SOME)), "011")
        self.assertEqual(self.told("accb", ("beside", C)), "0011")
        self.assertEqual(self.told("accb", ("around", SOME)), "0000")
        # Opens that aren't answered hold all that follows.
        self.assertEqual(self.told("aab", ("around", A)), "011")
        self.assertEqual(self.told("aab", ("around", ("around", A))), "001")
        self.assertEqual(self.told("aacb", ("around", A)), "0111")
        self.assertEqual(self.told("aacb", ("beside", SOME)), "0011")
        self.assertEqual(self.told("caa", ("beside", C)), "010")

    def test_no_letters(self):
        for saying in (A, SOME, ("since", SOME, SOME), ("not", ("ahead", A))):
            self.assertEqual(kept(self, truths, ONE, [], saying), [])

    def test_held_against_all_short_words(self):
        words = {sheet: all_words(sheet, size) for sheet, size in ((ONE, 5), (BARE, 7), (TWO, 3))}
        for seed in range(90):
            sheet = (ONE, BARE, TWO)[seed % 3]
            saying = some_saying(seed, sheet, 4, 9)
            for word in words[sheet]:
                self.assertEqual(truths(sheet, word, saying), plain_truths(sheet, word, saying), (word, saying))

    def test_each_head_over_each_other(self):
        words = all_words(ONE, 5)
        for head, many in HEADS.items():
            for inner, parts in HEADS.items():
                if many == 0:
                    continue
                for saying in ((head,) + (row_of(inner, parts),) * many, (head,) + (A, row_of(inner, parts))[-many:]):
                    for word in words[::3]:
                        self.assertEqual(truths(ONE, word, saying), plain_truths(ONE, word, saying), (word, saying))

    def test_words_of_400_letters(self):
        deep = C
        for at in range(7):
            deep = ("since", deep, A) if at & 1 else ("since", SOME if at == 0 else B, deep)
        flat = A
        for at in range(7):
            flat = ("level" if at & 1 else "since", flat, ("is", "abc"[at // 2 % 3]))
        for saying in (deep, flat):
            word = ["b"] * 398 + ["a", "c"]
            told = kept(self, truths, ONE, word, saying)
            self.assertEqual(len(told), 400)
            small = kept(self, truths, ONE, ["b"] * 8 + ["a", "c"], saying)
            self.assertEqual(small, plain_truths(ONE, ["b"] * 8 + ["a", "c"], saying))
            self.assertEqual(told[-3:], small[-3:])
        for seed in range(12):
            sheet = (ONE, BARE, TWO)[seed % 3]
            word = long_word(seed, sheet, 400)
            self.assertEqual(len(truths(sheet, word, some_saying(seed, sheet, 8, 15))), len(word))
        # As many opens as letters, then as many closes.
        told = truths(ONE, ["a"] * 400, nested("around", 7, A))
        self.assertEqual(told, [False] * 7 + [True] * 393)
        self.assertEqual(truths(ONE, ["c"] * 400, nested("beside", 7, C)), [False] * 7 + [True] * 393)

    def test_no_letter(self):
        self.assertEqual(refused(self, NoLetter, truths, ONE, ["x"], A).place, 0)
        self.assertEqual(refused(self, NoLetter, truths, ONE, ["c", "a", "", "x"], A).place, 2)
        self.assertEqual(refused(self, NoLetter, truths, BARE, ["c", "a", "b"], A).place, 2)

    def test_what_is_told_is_the_askers_own(self):
        truths(ONE, ["a"], A).append(False)
        truths(ONE, [], A).append(False)
        self.assertEqual(truths(ONE, ["a"], A), [True])
        self.assertEqual(truths(ONE, [], A), [])


if __name__ == "__main__":
    unittest.main()
