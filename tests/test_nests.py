import unittest

from echohall.errors import NoLetter, NotShut
from echohall.nests import answers, boughs, depth_of, is_shut, word_by
from tests.helps import BARE, ONE, TWO, all_words, kept, long_word, refused, shut_words


def plain_answers(sheet, word):
    """Each close, from the left, looks back for the last open that is still free."""
    told = [None] * len(word)
    for place, letter in enumerate(word):
        if letter not in sheet[2]:
            continue
        for back in range(place - 1, -1, -1):
            if word[back] in sheet[0] and told[back] is None:
                told[back], told[place] = place, back
                break
    return told


def plain_wrong(sheet, word):
    told = plain_answers(sheet, word)
    for letters in (sheet[2], sheet[0]):
        for place, letter in enumerate(word):
            if letter in letters and told[place] is None:
                return place
    return None


class Answers(unittest.TestCase):
    def test_told_lists(self):
        self.assertEqual(answers(ONE, []), [])
        self.assertEqual(answers(ONE, ["a", "b", "c"]), [2, None, 0])
        self.assertEqual(answers(ONE, ["c", "a", "a", "c", "b"]), [None, None, 3, 2, None])
        self.assertEqual(answers(ONE, ["c", "c"]), [None, None])
        self.assertEqual(answers(ONE, ["a", "a"]), [None, None])
        self.assertEqual(answers(ONE, ["a", "c", "c", "a", "c"]), [1, 0, None, 4, 3])

    def test_a_close_answers_an_open_of_any_name(self):
        self.assertEqual(answers(TWO, ["z", "up", "y", "down"]), [3, 2, 1, 0])
        self.assertEqual(answers(TWO, ["z", "down", "up", "y"]), [1, 0, 3, 2])

    def test_all_short_words(self):
        for sheet, most in ((ONE, 6), (BARE, 8), (TWO, 3)):
            for word in all_words(sheet, most):
                self.assertEqual(answers(sheet, word), plain_answers(sheet, word))

    def test_long_words(self):
        self.assertEqual(answers(ONE, ["a"] * 200 + ["c"] * 200), list(range(399, -1, -1)))
        self.assertEqual(answers(ONE, ["b"] * 400), [None] * 400)
        self.assertEqual(answers(ONE, ["c"] * 400), [None] * 400)
        word = long_word(1, TWO, 400)
        self.assertEqual(len(word), 400)
        self.assertEqual(kept(self, answers, TWO, word), plain_answers(TWO, word))

    def test_each_list_is_new(self):
        told = answers(ONE, ["a", "c"])
        told[0] = 9
        told.append(9)
        self.assertEqual(answers(ONE, ["a", "c"]), [1, 0])

    def test_no_letter(self):
        self.assertEqual(refused(self, NoLetter, answers, ONE, ["c", "a", "d", "e"]).place, 2)
        self.assertEqual(refused(self, NoLetter, is_shut, ONE, ["", "a"]).place, 0)
        self.assertEqual(refused(self, NoLetter, depth_of, ONE, ["a", "A"]).place, 1)


class Shut(unittest.TestCase):
    def test_ordinary(self):
        for word in ([], ["b"], ["a", "c"], ["a", "b", "a", "c", "c", "b"], ["a"] * 200 + ["c"] * 200):
            self.assertIs(is_shut(ONE, word), True)
        for word in (["a"], ["c"], ["c", "a"], ["a", "c", "c"], ["a", "a", "c"], ["a"] * 201 + ["c"] * 199):
            self.assertIs(is_shut(ONE, word), False)
        self.assertIs(is_shut(TWO, ["z", "up", "y", "down"]), True)

    def test_just_the_shut_words(self):
        for sheet, most in ((ONE, 6), (BARE, 8), (TWO, 4)):
            shut = [word for word in all_words(sheet, most) if kept(self, is_shut, sheet, word)]
            self.assertEqual(sorted(shut), sorted(shut_words(sheet, most)))


class Depth(unittest.TestCase):
    def test_ordinary(self):
        self.assertEqual(depth_of(ONE, []), 0)
        self.assertEqual(depth_of(ONE, ["b", "b"]), 0)
        self.assertEqual(depth_of(ONE, ["c", "c"]), 0)
        self.assertEqual(depth_of(ONE, ["a", "c", "a", "c"]), 1)
        self.assertEqual(depth_of(ONE, ["a", "a", "c", "c", "a"]), 2)
        self.assertEqual(depth_of(TWO, ["z", "up", "down"]), 2)

    def test_a_bare_close_takes_nothing_from_it(self):
        self.assertEqual(depth_of(ONE, ["c", "c", "a", "a"]), 2)
        self.assertEqual(depth_of(ONE, ["a", "c", "c", "c", "a", "a", "a", "c"]), 3)

    def test_great(self):
        self.assertEqual(depth_of(ONE, ["a"] * 200 + ["c"] * 200), 200)
        self.assertEqual(depth_of(ONE, ["a"] * 400), 400)

    def test_all_short_words(self):
        for word in all_words(ONE, 6):
            most = 0
            for size in range(len(word) + 1):
                told = plain_answers(ONE, word[:size])
                most = max(most, len([k for k in range(size) if word[k] == "a" and told[k] is None]))
            self.assertEqual(kept(self, depth_of, ONE, word), most)


class Boughs(unittest.TestCase):
    def test_ordinary(self):
        self.assertEqual(boughs(ONE, []), ())
        self.assertEqual(boughs(ONE, ["b", "b"]), (("b",), ("b",)))
        self.assertEqual(boughs(ONE, ["a", "c", "a", "b", "c"]), (("a", (), "c"), ("a", (("b",),), "c")))
        self.assertEqual(
            boughs(TWO, ["z", "up", "m", "y", "dot", "down", "dot"]),
            (("z", (("up", (("m",),), "y"), ("dot",)), "down"), ("dot",)),
        )

    def test_written_again(self):
        for sheet, most in ((ONE, 7), (TWO, 4)):
            for word in shut_words(sheet, most):
                told = kept(self, boughs, sheet, word)
                self.assertIs(type(told), tuple)
                self.assertEqual(kept(self, word_by, told), word)

    def test_200_within_one_another(self):
        word = ["a"] * 200 + ["b"] + ["c"] * 200
        told = boughs(ONE, word)
        self.assertEqual(word_by(told), word)
        for _ in range(200):
            self.assertEqual(len(told), 1)
            a, told, c = told[0]
            self.assertEqual((a, c), ("a", "c"))
        self.assertEqual(told, (("b",),))

    def test_more_letters_than_a_word_has(self):
        word = ["a"] * 2000 + ["c"] * 2000
        self.assertEqual(word_by(boughs(ONE, word)), word)

    def test_long_and_beside_one_another(self):
        for word in (["b"] * 400, ["a", "c"] * 200, long_word(5, TWO, 400)):
            sheet = TWO if "z" in word or "up" in word else ONE
            self.assertEqual(word_by(boughs(sheet, word)), word)

    def test_each_written_word_is_new(self):
        told = boughs(ONE, ["a", "b", "c"])
        word = word_by(told)
        self.assertIs(type(word), list)
        word.append("b")
        self.assertEqual(word_by(told), ["a", "b", "c"])

    def test_not_shut(self):
        for word, place in (
            (["a"], 0),
            (["c"], 0),
            (["a", "c", "c", "c"], 2),
            (["a", "c", "c", "a"], 2),
            (["b", "a", "a", "c"], 1),
            (["c", "a"], 0),
            (["a", "b", "a", "a", "c"], 0),
        ):
            self.assertEqual(refused(self, NotShut, boughs, ONE, word).place, place)

    def test_all_short_words_that_are_not_shut(self):
        for word in all_words(ONE, 5):
            place = plain_wrong(ONE, word)
            if place is not None:
                self.assertEqual(refused(self, NotShut, boughs, ONE, word).place, place)

    def test_no_letter_goes_ahead(self):
        self.assertEqual(refused(self, NoLetter, boughs, ONE, ["c", "a", "q"]).place, 2)
        self.assertEqual(refused(self, NoLetter, boughs, ONE, ["a", "", "c"]).place, 1)


if __name__ == "__main__":
    unittest.main()
