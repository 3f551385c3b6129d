import unittest

from echohall.errors import TooMany
from echohall.leasts import least_word
from echohall.machines import is_machine, is_one_way
from echohall.put import met, turned
from echohall.saidby import machine_for
from echohall.sayings import truths
from echohall.tellings import telling
from echohall.walks import lets
from echohall.within import alike
from tests.helps import BARE, ONE, TWO, is_shaped, kept, plain_lets, refused, shut_words
from tests.said import HEADS, nested, plain_looks, plain_truth, some_saying

A, B, C = ("is", "a"), ("is", "b"), ("is", "c")
SOME = ("not", ("both", A, ("not", A)))
SIZES = {ONE: 6, BARE: 8, TWO: 4}
WORDS = {sheet: shut_words(sheet, size) for sheet, size in SIZES.items()}


def least_limit(sheet, saying, most=60):
    """The least limit by which a machine is told, None where there is none up to most."""
    for limit in range(1, most + 1):
        try:
            machine_for(sheet, saying, limit)
            return limit
        except TooMany:
            continue
    return None


class MachineFor(unittest.TestCase):
    def looked(self, sheet, saying, limit=60):
        machine = kept(self, machine_for, sheet, saying, limit)
        self.assertEqual(machine[0], sheet)
        self.assertTrue(is_shaped(machine))
        self.assertTrue(is_one_way(machine))
        self.assertFalse(lets(machine, []))
        for word in WORDS[sheet]:
            want = word != [] and plain_truth(sheet, word, saying, len(word) - 1)
            self.assertEqual(plain_lets(machine, word), want, (word, saying))
        return machine

    def test_by_hand(self):
        machine = self.looked(ONE, B)
        self.assertTrue(lets(machine, ["a", "c", "b"]))
        self.assertFalse(lets(machine, ["b", "a", "c"]))
        self.looked(ONE, SOME)
        self.assertFalse(any(lets(self.looked(ONE, ("not", SOME)), word) for word in WORDS[ONE]))
        # Opens never end a shut word.
        self.assertFalse(any(lets(self.looked(ONE, A), word) for word in WORDS[ONE]))

    def test_each_head(self):
        for sheet in (ONE, BARE, TWO):
            letters = sheet[0] + sheet[1] + sheet[2]
            for head, many in HEADS.items():
                for at, letter in enumerate(letters):
                    if many == 0:
                        self.looked(sheet, (head, letter))
                    else:
                        parts = (("is", letter), ("is", letters[at - 1]))
                        self.looked(sheet, (head,) + parts[:many])
                        self.looked(sheet, (head,) + tuple(("not", part) for part in parts[:many]))

    def test_heads_within_one_another(self):
        for head, many in HEADS.items():
            for inner, parts in HEADS.items():
                if many and parts:
                    saying = (head,) + ((inner,) + (C, B)[:parts], A)[:many]
                    self.looked(ONE, saying)
                    if many == 2:
                        self.looked(ONE, (head, B, (inner,) + (A, C)[:parts]))

    def test_some(self):
        seen = 0
        for seed in range(120):
            sheet = (ONE, BARE, TWO)[seed % 3]
            saying = some_saying(seed, sheet, 4, 8)
            try:
                machine_for(sheet, saying, 60)
            except TooMany:
                continue
            self.looked(sheet, saying)
            seen += 1
        self.assertGreater(seen, 70)

    def test_as_many_rooms_as_looks_and_limits(self):
        seen = 0
        for seed in range(90):
            sheet = (ONE, BARE, TWO)[seed % 3]
            saying = some_saying(seed, sheet, 3, 5)
            many = least_limit(sheet, saying, {ONE: 16, BARE: 20, TWO: 12}[sheet])
            if many is None:
                continue
            looks = plain_looks(sheet, saying, {ONE: 11, BARE: 12, TWO: 8}[sheet])
            self.assertEqual(many, len(looks), saying)
            self.assertLessEqual(kept(self, machine_for, sheet, saying, many)[1], many)
            self.assertEqual(machine_for(sheet, saying, limit=many), machine_for(sheet, saying, many))
            if many > 1:
                refused(self, TooMany, machine_for, sheet, saying, many - 1)
                refused(self, TooMany, machine_for, sheet, saying, limit=many - 1)
            seen += many > 8
        self.assertGreater(seen, 12)

    def test_without_a_limit_as_by_16(self):
        refusals = 0
        for seed in range(60):
            saying = some_saying(seed, ONE, 4, 7)
            try:
                told = machine_for(ONE, saying, 16)
            except TooMany:
                refused(self, TooMany, machine_for, ONE, saying)
                refusals += 1
                continue
            self.assertEqual(machine_for(ONE, saying), told)
        self.assertTrue(5 < refusals < 55, refusals)

    def test_16_and_17_looks(self):
        found = {}
        for seed in range(4000):
            many = least_limit(ONE, some_saying(seed, ONE, 3, 5), 17)
            if many is not None:
                found.setdefault(many, some_saying(seed, ONE, 3, 5))
            if 16 in found and 17 in found:
                break
        self.assertEqual(machine_for(ONE, found[16]), machine_for(ONE, found[16], 16))
        refused(self, TooMany, machine_for, ONE, found[17])
        self.looked(ONE, found[17], 17)

    def test_looks_that_are_behind_no_letters_don_t_count(self):
        # A level holds other looks by what stands around it; a close of the one never comes with the open of another.
        saying = ("around", ("beside", B))
        looks = plain_looks(ONE, saying, 10)
        self.assertEqual(least_limit(ONE, saying), len(looks))
        self.looked(ONE, saying)

    def test_deep_and_long_sayings(self):
        # An a stands seven pairs around the place ahead of the last letter.
        saying = ("ahead", nested("around", 4, A))
        machine = machine_for(BARE, saying, 60)
        for many in range(1, 9):
            word = ["a"] * many + ["c"] * many
            self.assertEqual(lets(machine, word), truths(BARE, word, saying)[-1])
        # Somewhere, on any level.
        some_b = ("since", SOME, B)
        machine = machine_for(ONE, some_b)
        for word in WORDS[ONE]:
            self.assertEqual(lets(machine, word), "b" in word)

    def test_with_the_other_functions(self):
        some_b = machine_for(ONE, ("since", SOME, B))
        no_b = machine_for(ONE, ("not", ("since", SOME, B)))
        # Turned the one lets by all that the other does, and the word of no letters.
        self.assertTrue(all(lets(turned(some_b), word) == (word == [] or lets(no_b, word)) for word in WORDS[ONE]))
        self.assertEqual(alike(some_b, machine_for(ONE, ("not", ("not", ("since", SOME, B)))), 60)[0], "alike")
        self.assertEqual(telling(some_b, 60)[2], (telling(some_b, 60)[1].index(("b",)),))
        self.assertEqual(least_word(met(some_b, no_b))[0], "reach")

    def test_a_small_one_is_a_machine_as_made_by_hand(self):
        self.assertTrue(is_machine(machine_for(ONE, B)))


if __name__ == "__main__":
    unittest.main()
