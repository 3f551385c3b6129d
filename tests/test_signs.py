import unittest

from echohall.errors import NoLetter
from echohall.nests import is_shut
from echohall.signs import is_less, is_letter, is_sheet, is_whole
from tests.helps import ONE, TWO, all_words, kept, refused

ODD = (None, True, False, 0, 1, -3, 10**30, "", "ab", (), (1,), [], ["a"], ("a",), [[]], ((),), "a\nb", "~ ")


class Whole(unittest.TestCase):
    def test_truths_are_none(self):
        for thing in (0, 1, -1, 10**60):
            self.assertIs(is_whole(thing), True)
        for thing in (True, False, None, "1", (1,), [1]):
            self.assertIs(is_whole(thing), False)


class Letters(unittest.TestCase):
    def test_one_to_eight_signs(self):
        for size in range(1, 9):
            self.assertIs(is_letter("abcdwxyz"[:size]), True)
        self.assertIs(is_letter(""), False)
        self.assertIs(is_letter("abcdefghi"), False)

    def test_each_small_letter_is_a_sign_of_one(self):
        for sign in "abcdefghijklmnopqrstuvwxyz":
            self.assertIs(is_letter(sign), True)

    def test_no_other_signs(self):
        for code in list(range(32, 127)) + [10]:
            sign = chr(code)
            good = "a" <= sign <= "z"
            self.assertIs(is_letter(sign), good)
            self.assertIs(is_letter("a" + sign), good)
            self.assertIs(is_letter(sign + "z"), good)

    def test_no_other_kinds(self):
        for thing in ODD:
            self.assertIs(is_letter(thing), thing == "ab")


class Sheets(unittest.TestCase):
    def test_how_many_of_each_part(self):
        names = ("a", "b", "c", "d", "e")
        for opens in range(6):
            for plains in range(6):
                for closes in range(6):
                    sheet = (
                        tuple("o" + name for name in names[:opens]),
                        tuple("p" + name for name in names[:plains]),
                        tuple("q" + name for name in names[:closes]),
                    )
                    good = 1 <= opens <= 4 and plains <= 4 and 1 <= closes <= 4
                    self.assertIs(is_sheet(sheet), good, sheet)

    def test_no_letter_twice(self):
        self.assertIs(is_sheet((("a", "d"), ("b",), ("c", "e"))), True)
        for sheet in (
            (("a", "a"), ("b",), ("c",)),
            (("a",), ("b", "b"), ("c",)),
            (("a",), ("b",), ("c", "c")),
            (("a",), ("a",), ("c",)),
            (("a",), ("b",), ("a",)),
            (("a",), ("c",), ("c",)),
        ):
            self.assertIs(is_sheet(sheet), False, sheet)

    def test_letters_only(self):
        for wrong in ("", "A", "abcdefghi", "a b", 1, True, None, ("a",), ["a"]):
            self.assertIs(is_sheet(((wrong,), ("b",), ("c",))), False)
            self.assertIs(is_sheet((("a",), (wrong,), ("c",))), False)
            self.assertIs(is_sheet((("a",), ("b",), (wrong,))), False)
        self.assertIs(is_sheet((("a", "B"), ("b",), ("c",))), False)

    def test_tuples_only(self):
        good = [("a",), ("b",), ("c",)]
        for at in range(3):
            for wrong in (["x"], "x", "xyz", 1, True, None, [], {}):
                parts = list(good)
                parts[at] = wrong
                self.assertIs(is_sheet(tuple(parts)), False, parts)
        self.assertIs(is_sheet(good), False)
        self.assertIs(is_sheet("abc"), False)

    def test_a_part_more_and_a_part_less(self):
        self.assertIs(is_sheet((("a",), ("b",), ("c",), ("d",))), False)
        self.assertIs(is_sheet((("a",), ("c",))), False)
        self.assertIs(is_sheet(()), False)

    def test_of_anything(self):
        deep = "a"
        for _ in range(24):
            deep = (deep,)
        for thing in ODD + (deep, (deep, deep, deep), [1] * 3000, ("a",) * 3000):
            self.assertIs(kept(self, is_sheet, thing), False)
            self.assertIs(kept(self, is_letter, thing), thing == "ab")


class Less(unittest.TestCase):
    def test_fewer_letters_first(self):
        self.assertIs(is_less(TWO, [], ["z"]), True)
        self.assertIs(is_less(TWO, ["z"], []), False)
        self.assertIs(is_less(TWO, ["down", "down"], ["z", "z", "z"]), True)
        self.assertIs(is_less(TWO, ["z", "z", "z"], ["down", "down"]), False)

    def test_by_the_order_of_the_sheet(self):
        order = ["z", "up", "m", "dot", "y", "down"]
        for i, one in enumerate(order):
            for j, other in enumerate(order):
                self.assertIs(is_less(TWO, [one], [other]), i < j)

    def test_the_first_unlike_place_says(self):
        for place in (0, 2, 4):
            one, other = ["m"] * 5, ["m"] * 5
            one[place], other[place] = "up", "dot"
            for behind in range(place + 1, 5):
                one[behind], other[behind] = "down", "z"
            self.assertIs(is_less(TWO, one, other), True)
            self.assertIs(is_less(TWO, other, one), False)

    def test_not_less_than_itself(self):
        for word in ([], ["z"], ["down", "m"], ["up"] * 400):
            self.assertIs(is_less(TWO, word, word), False)
            self.assertIs(is_less(TWO, word, list(word)), False)

    def test_of_400_letters(self):
        one, other = ["z"] * 400, ["z"] * 399 + ["up"]
        self.assertIs(kept(self, is_less, TWO, one, other), True)
        self.assertIs(is_less(TWO, other, one), False)
        self.assertIs(is_less(TWO, [], one), True)

    def test_words_needn_t_be_shut(self):
        words = all_words(ONE, 3)
        self.assertFalse(all(is_shut(ONE, word) for word in words))
        # The words are made in their order, as "a", "b", "c" is that of the sheet.
        for i, one in enumerate(words):
            for j, other in enumerate(words):
                self.assertIs(is_less(ONE, one, other), i < j)

    def test_no_letter(self):
        for wrong in ("q", "", "Z", "z ", "ab"):
            self.assertEqual(refused(self, NoLetter, is_less, TWO, ["z", wrong, wrong], ["m"]).place, 1)
            self.assertEqual(refused(self, NoLetter, is_less, TWO, ["m"], ["z", "z", wrong]).place, 2)
            self.assertEqual(refused(self, NoLetter, is_less, TWO, ["z", "z", "z", wrong], [wrong]).place, 3)


if __name__ == "__main__":
    unittest.main()
