import unittest

from echohall.errors import NoLetter, TooMany
from echohall.nests import is_shut
from echohall.partings import is_parting, parting
from echohall.tellings import kind_of, telling
from tests.helps import (
    BARE,
    EVEN_TOLD,
    NAMED_TOLD,
    ONE,
    TWO,
    all_words,
    kept,
    machine_of_plains,
    refused,
    some_machine,
)


def plain_is_parting(told, k, l, left, right):
    sheet, words, lets = told[:3]
    wholes = [left + list(words[kind]) + right for kind in (k, l)]
    if not all(is_shut(sheet, whole) for whole in wholes):
        return False
    one, other = [kind_of(told, whole) in lets for whole in wholes]
    return one != other


def tellings():
    found = [EVEN_TOLD, NAMED_TOLD, telling(machine_of_plains(ONE, [6], None)), telling(machine_of_plains(ONE, [], 3))]
    for seed in range(60):
        sheet = (ONE, BARE, TWO)[seed % 3]
        try:
            found.append(telling(some_machine(seed, sheet, rooms=2, marks=1, share=2 + seed % 2), 60))
        except TooMany:
            continue
    return found


class Parting(unittest.TestCase):
    def test_each_two_kinds_either_way_about(self):
        most = 0
        for told in tellings():
            many = len(told[1])
            most = max(most, many)
            for k in range(many):
                for l in range(many):
                    found = kept(self, parting, told, k, l)
                    if k == l:
                        self.assertIsNone(found)
                        continue
                    left, right = found
                    self.assertEqual((type(found), type(left), type(right)), (tuple, list, list))
                    self.assertTrue(plain_is_parting(told, k, l, left, right))
                    self.assertIs(is_parting(told, k, l, left, right), True)
                    self.assertIs(is_parting(told, l, k, left, right), True)
        self.assertGreater(most, 7)

    def test_tellings_of_one_kind(self):
        for lets in ((), (0,)):
            self.assertIsNone(parting((ONE, ((),), lets, (0,), ((0,),), (((0,),),)), 0, 0))

    def test_kinds_that_only_a_pair_parts(self):
        # A plain may stand within a pair only, so a pair around b and around nothing tell b from c.
        moves = (("close", 1, 0, "c", 0), ("open", 0, "a", 0, 1), ("plain", 1, "b", 1))
        told = telling((ONE, 2, 1, (0,), (0,), moves))
        plain, doubled = kind_of(told, ["b"]), kind_of(told, ["b", "a", "c"])
        self.assertNotIn(plain, told[2])
        self.assertNotIn(doubled, told[2])
        left, right = parting(told, plain, doubled)
        self.assertIn("a", left)
        self.assertIn("c", right)

    def test_many_kinds(self):
        told = telling(machine_of_plains(ONE, [58], None), 60)
        for k, l in ((0, 59), (0, 1), (58, 59), (30, 31), (57, 58)):
            left, right = parting(told, k, l)
            self.assertTrue(plain_is_parting(told, k, l, left, right))

    def test_what_is_told_is_the_askers_own(self):
        left, right = parting(EVEN_TOLD, 0, 1)
        want = (list(left), list(right))
        left.append("b")
        right.append("b")
        self.assertEqual(parting(EVEN_TOLD, 0, 1), want)
        self.assertEqual(EVEN_TOLD[1], ((), ("b",), ("a", "c")))
        left, right = parting(EVEN_TOLD, 1, 2)
        left.insert(0, "x")
        right.clear()
        self.assertIs(is_parting(EVEN_TOLD, 1, 2, *parting(EVEN_TOLD, 1, 2)), True)


class IsParting(unittest.TestCase):
    def told(self, telling, k, l, left, right, good):
        self.assertIs(kept(self, is_parting, telling, k, l, left, right), good)

    def test_words_that_part_and_words_that_dont(self):
        self.told(EVEN_TOLD, 0, 1, [], [], True)
        self.told(EVEN_TOLD, 1, 0, ["b"], ["b", "b"], True)
        self.told(EVEN_TOLD, 0, 1, ["a", "c"], [], False)
        self.told(EVEN_TOLD, 1, 2, [], [], False)
        self.told(EVEN_TOLD, 1, 2, ["b"], [], True)
        self.told(EVEN_TOLD, 1, 2, [], ["b", "b", "b"], True)
        self.told(EVEN_TOLD, 1, 2, ["b"], ["b"], False)

    def test_shut_only_with_the_word_between(self):
        self.told(NAMED_TOLD, 0, 1, ["z"], ["y"], True)
        self.told(NAMED_TOLD, 0, 1, ["z", "up", "m"], ["down", "dot", "y"], True)
        self.told(NAMED_TOLD, 0, 1, ["z"], ["down"], False)
        self.told(EVEN_TOLD, 0, 1, ["a"], ["c"], False)

    def test_not_shut_with_it(self):
        for left, right in ((["z"], []), ([], ["y"]), (["y"], ["z"]), (["z", "z"], ["y"]), (["z"], ["y", "y"])):
            self.told(NAMED_TOLD, 0, 1, left, right, False)
        self.told(NAMED_TOLD, 0, 1, ["z", "y", "y"], ["z"], False)

    def test_a_kind_and_itself(self):
        for kind in range(3):
            for left, right in (([], []), (["b"], []), (["a"], ["c"])):
                self.told(EVEN_TOLD, kind, kind, left, right, False)

    def test_all_short_words(self):
        for told in (EVEN_TOLD, telling(machine_of_plains(ONE, [2], None))):
            words = all_words(told[0], 3)
            for left in words:
                for right in words:
                    for k, l in ((0, 1), (1, 0), (1, len(told[1]) - 1)):
                        self.told(told, k, l, left, right, plain_is_parting(told, k, l, left, right))

    def test_long_words(self):
        self.told(NAMED_TOLD, 0, 1, ["z"] * 200, ["y"] * 200, True)
        self.told(NAMED_TOLD, 0, 1, ["z"] * 400, ["y"] * 400, True)
        self.told(NAMED_TOLD, 0, 1, ["z"] * 400, ["y"] * 399, False)
        self.told(EVEN_TOLD, 0, 1, ["b"] * 400, ["b"] * 400, True)

    def test_no_letter_of_the_left_ahead_of_the_right(self):
        for k, l in ((0, 1), (1, 1)):
            wrong = refused(self, NoLetter, is_parting, EVEN_TOLD, k, l, ["b", "x", "y"], [])
            self.assertEqual(wrong.place, 1)
            wrong = refused(self, NoLetter, is_parting, EVEN_TOLD, k, l, ["b", "c", "a"], ["c", "c", "", "x"])
            self.assertEqual(wrong.place, 2)
            wrong = refused(self, NoLetter, is_parting, EVEN_TOLD, k, l, ["c", "b", "b", "x"], ["y"])
            self.assertEqual(wrong.place, 3)


if __name__ == "__main__":
    unittest.main()
