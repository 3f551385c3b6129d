import random
import re
import unittest

from echohall.errors import NoText
from echohall.machines import is_machine
from echohall.put import again, met
from echohall.sayings import is_saying
from echohall.texts import read_machine, read_saying, read_word, show_machine, show_saying, show_word
from tests.helps import BARE, ONE, TWO, all_moves, kept, long_word, refused, shut_words, some_machine
from tests.said import HEADS, all_within, nested, some_saying

# Letters that are called as words of the texts.
NAMED = (("is", "not", "opens", "open"), ("plain", "plains", "both", "rooms"), ("close", "since", "level", "lasts"))
PAIR = (ONE, 3, 1, (0,), (2,), (("close", 1, 0, "c", 2), ("open", 0, "a", 0, 1), ("plain", 1, "b", 1)))
PAIR_TEXT = "\n".join(
    (
        "opens a",
        "plains b",
        "closes c",
        "rooms 3",
        "marks 1",
        "firsts 0",
        "lasts 2",
        "close 1 0 c 2",
        "open 0 a 0 1",
        "plain 1 b 1",
    )
)
LEAST_TEXT = "opens a\nplains\ncloses c\nrooms 1\nmarks 0\nfirsts 0\nlasts"
DEFAULTS = ["opens spareo", "plains", "closes sparec", "rooms 6", "marks 6", "firsts 0", "lasts"]
ROW = r"[a-z]{1,8}"
NUMBER = r"(?:0|[1-9][0-9]{0,3})"
FORMS = [
    rf"opens(?: {ROW})+",
    rf"plains(?: {ROW})*",
    rf"closes(?: {ROW})+",
    rf"rooms {NUMBER}",
    rf"marks {NUMBER}",
    rf"firsts(?: {NUMBER})+",
    rf"lasts(?: {NUMBER})*",
]
MOVES = [rf"open {NUMBER} {ROW} {NUMBER} {NUMBER}", rf"plain {NUMBER} {ROW} {NUMBER}"]
MOVES += [rf"close {NUMBER} {NUMBER} {ROW} {NUMBER}"]


def plain_machine(lines):
    """The machine that lines write, by patterns; None where they write none."""
    if len(lines) < 7 or not all(re.fullmatch(form, line) for form, line in zip(FORMS, lines)):
        return None
    if not all(any(re.fullmatch(form, line) for form in MOVES) for line in lines[7:]):
        return None
    rows = [[int(word) if word.isdigit() else word for word in line.split(" ")] for line in lines]
    parts = [tuple(row[1:]) for row in rows[:7]]
    made = (tuple(parts[:3]), parts[3][0], parts[4][0], parts[5], parts[6], tuple(tuple(row) for row in rows[7:]))
    return made if is_machine(made) else None


def plain_place(text):
    """The place with which a machine's text is refused, None where it isn't."""
    lines = text.split("\n")
    for many in range(1, len(lines) + 1):
        if plain_machine(lines[:many] + DEFAULTS[many:]) is None:
            return many - 1
    return len(lines) if len(lines) < 7 else None


def plain_saying(words):
    """The saying that words write, without bounds, and how many words it has; fails where there is none."""
    if words[0] == "is":
        return ("is", words[1]), 2
    parts, at = [], 1
    for _ in range(HEADS[words[0]]):
        part, many = plain_saying(words[at:])
        parts.append(part)
        at += many
    return (words[0],) + tuple(parts), at


def due_behind(sheet, words):
    """What must still come behind words: sayings and letters; None where they are no beginning of a saying's text."""
    letters = sheet[0] + sheet[1] + sheet[2]
    due = ["saying"]
    for word in words:
        if not due:
            return None
        if due.pop() == "letter":
            if word not in letters:
                return None
        elif word not in HEADS:
            return None
        else:
            due += ["letter"] if word == "is" else ["saying"] * HEADS[word]
    least = list(words)
    for kind in due[::-1]:
        least += ["is", letters[0]] if kind == "saying" else [letters[0]]
    return due if is_saying(sheet, plain_saying(least)[0]) else None


def plain_saying_place(sheet, text):
    words = text.split(" ")
    for many in range(1, len(words) + 1):
        if due_behind(sheet, words[:many]) is None:
            return many - 1
    return len(words) if due_behind(sheet, words) else None


class Words(unittest.TestCase):
    def test_shown_and_read_back(self):
        for sheet in (ONE, TWO, BARE):
            for word in shut_words(sheet, 4) + [long_word(3, sheet, 400), list(sheet[0])]:
                text = kept(self, show_word, word)
                self.assertEqual(kept(self, read_word, sheet, text), word)
        self.assertEqual(show_word(["up", "m", "down"]), "up m down")
        self.assertEqual(show_word(["m"]), "m")
        self.assertEqual(show_word([]), "-")
        self.assertEqual(read_word(TWO, "-"), [])
        # A word that isn't shut is a word as well.
        self.assertEqual(read_word(ONE, "c a a"), ["c", "a", "a"])

    def bad(self, sheet, text, place):
        self.assertEqual(refused(self, NoText, read_word, sheet, text).place, place, text)

    def test_no_text(self):
        self.bad(ONE, "", 0)
        self.bad(ONE, " ", 0)
        self.bad(ONE, " a", 0)
        self.bad(ONE, "a ", 1)
        self.bad(ONE, "a  b", 1)
        self.bad(ONE, "a b x", 2)
        self.bad(ONE, "x a x", 0)
        self.bad(ONE, "a ab", 1)
        self.bad(ONE, "A", 0)
        self.bad(ONE, "a b\n", 1)
        self.bad(ONE, "a\nb", 0)
        self.bad(ONE, "\n", 0)
        self.bad(ONE, "a b c\nb b x", 2)
        self.bad(ONE, "a,b", 0)

    def test_the_sign_of_no_letters(self):
        self.bad(ONE, "- ", 1)
        self.bad(ONE, "- -", 1)
        self.bad(ONE, "- a", 1)
        self.bad(ONE, "-  a b", 1)
        self.bad(ONE, " -", 0)
        self.bad(ONE, "--", 0)
        self.bad(ONE, "-\n", 0)
        self.bad(ONE, "a -", 1)

    def test_400_and_401_letters(self):
        self.assertEqual(read_word(ONE, " ".join(["b"] * 400)), ["b"] * 400)
        self.bad(ONE, " ".join(["b"] * 401), 400)
        self.bad(ONE, " ".join(["b"] * 600), 400)
        self.bad(ONE, " ".join(["b"] * 400) + " ", 400)
        self.bad(ONE, " ".join(["b"] * 300 + ["x"] + ["b"] * 300), 300)
        # A told word of more letters is shown all the same.
        self.assertEqual(show_word(["b"] * 600), " ".join(["b"] * 600))

    def test_what_is_told_is_the_askers_own(self):
        read_word(ONE, "a b").append("c")
        read_word(ONE, "-").append("c")
        self.assertEqual((read_word(ONE, "a b"), read_word(ONE, "-")), (["a", "b"], []))


class SayingTexts(unittest.TestCase):
    def bad(self, sheet, text, place):
        self.assertEqual(refused(self, NoText, read_saying, sheet, text).place, place, text)
        self.assertEqual(plain_saying_place(sheet, text), place, text)

    def good(self, sheet, saying):
        text = kept(self, show_saying, saying)
        self.assertEqual(kept(self, read_saying, sheet, text), saying)
        return text

    def test_to_the_sign(self):
        for saying, text in (
            (("is", "a"), "is a"),
            (("not", ("is", "b")), "not is b"),
            (("both", ("is", "b"), ("is", "c")), "both is b is c"),
            (("ahead", ("is", "c")), "ahead is c"),
            (("beside", ("is", "c")), "beside is c"),
            (("around", ("is", "a")), "around is a"),
            (("since", ("not", ("is", "b")), ("is", "a")), "since not is b is a"),
            (("level", ("is", "b"), ("ahead", ("is", "a"))), "level is b ahead is a"),
            (("both", ("both", ("is", "a"), ("is", "b")), ("is", "c")), "both both is a is b is c"),
            (("both", ("is", "a"), ("both", ("is", "b"), ("is", "c"))), "both is a both is b is c"),
        ):
            self.assertEqual(self.good(ONE, saying), text)

    def test_shown_and_read_back(self):
        for seed in range(150):
            sheet = (ONE, TWO, BARE, NAMED)[seed % 4]
            self.good(sheet, some_saying(seed, sheet, 1 + seed % 8, 1 + seed % 15))

    def test_letters_that_are_called_as_words(self):
        for letter in NAMED[0] + NAMED[1] + NAMED[2]:
            self.good(NAMED, ("is", letter))
            self.good(NAMED, ("since", ("is", letter), ("not", ("is", letter))))
        self.assertEqual(read_saying(NAMED, "not is not"), ("not", ("is", "not")))
        self.assertEqual(read_saying(NAMED, "both is is is both"), ("both", ("is", "is"), ("is", "both")))
        self.bad(NAMED, "is is is", 2)
        self.bad(NAMED, "plain", 0)
        self.bad(NAMED, "is not is not", 2)

    def test_blanks_and_line_ends(self):
        self.bad(ONE, "", 0)
        self.bad(ONE, " ", 0)
        self.bad(ONE, " is a", 0)
        self.bad(ONE, "is  a", 1)
        self.bad(ONE, "is a ", 2)
        self.bad(ONE, "is ", 1)
        self.bad(ONE, "not ", 1)
        self.bad(ONE, "is a\n", 1)
        self.bad(ONE, "is\na", 0)
        self.bad(ONE, "not\nis a", 0)
        self.bad(ONE, "not is\n a", 1)

    def test_other_words(self):
        self.bad(ONE, "is x", 1)
        self.bad(ONE, "is is", 1)
        self.bad(ONE, "a", 0)
        self.bad(ONE, "not a", 1)
        self.bad(ONE, "Is a", 0)
        self.bad(ONE, "or is a is b", 0)
        self.bad(ONE, "both is a b", 3)
        self.bad(ONE, "is a is b", 2)
        self.bad(ONE, "-", 0)
        self.bad(ONE, "both is a is b is c", 5)

    def test_ends_too_early(self):
        self.bad(ONE, "is", 1)
        self.bad(ONE, "not", 1)
        self.bad(ONE, "both", 1)
        self.bad(ONE, "both is a", 3)
        self.bad(ONE, "both is a is", 4)
        self.bad(ONE, "since not is a", 4)
        self.bad(ONE, "level level is a is b", 6)

    def test_eight_and_nine_within_one_another(self):
        for head in ("not", "ahead", "beside", "around"):
            self.good(ONE, nested(head, 7, ("is", "a")))
            # The eighth head would have a ninth within it.
            self.bad(ONE, " ".join([head] * 8) + " is a", 7)
            self.bad(ONE, " ".join([head] * 8), 7)
            self.bad(ONE, " ".join([head] * 7), 7)
            self.bad(ONE, " ".join([head] * 20), 7)
        self.bad(ONE, " ".join(["not"] * 7) + " both is a is b", 7)
        self.bad(ONE, "both " + " ".join(["not"] * 6) + " is a " + " ".join(["not"] * 7) + " is b", 15)

    def test_fifteen_and_sixteen_in_all(self):
        row = "is a"
        for _ in range(7):
            row = f"both {row} is b"
        self.assertEqual(len(all_within(read_saying(ONE, row))), 15)
        self.bad(ONE, f"not {row}", 7)
        flat = "is a"
        for _ in range(3):
            flat = f"since {flat} {flat}"
        self.assertEqual(len(all_within(read_saying(ONE, flat))), 15)
        self.bad(ONE, "not " + flat, 19)
        # What is too much is found at the first head for whose parts there is no room.
        words = flat.split(" ")
        self.bad(ONE, " ".join(words[:-2] + ["not"] + words[-2:]), len(words) - 2)
        self.bad(ONE, " ".join(words[:2] + ["not"] + words[2:]), 19)
        self.bad(ONE, flat + " is a", len(words))

    def test_words_left_out_put_in_and_changed(self):
        dice = random.Random(1)
        seen = 0
        for seed in range(300):
            sheet = (ONE, TWO, NAMED)[seed % 3]
            words = show_saying(some_saying(seed, sheet, 8, 15)).split(" ")
            at = dice.randrange(len(words))
            other = dice.choice(list(HEADS) + list(sheet[0]) + ["", "-", "x"])
            for text in (words[:at], words[:at] + words[at + 1 :], words[:at] + [other] + words[at:]):
                text = " ".join(text)
                place = plain_saying_place(sheet, text)
                if place is None:
                    self.assertEqual(show_saying(read_saying(sheet, text)), text)
                else:
                    self.bad(sheet, text, place)
                    seen += 1
        self.assertGreater(seen, 300)


class MachineTexts(unittest.TestCase):
    def bad(self, text, place):
        self.assertEqual(refused(self, NoText, read_machine, text).place, place, text)
        self.assertEqual(plain_place(text), place, text)

    def judged(self, text):
        """As the plain way judges it; tells the place of the refusal."""
        place = plain_place(text)
        if place is None:
            self.assertEqual(read_machine(text), plain_machine(text.split("\n")))
        else:
            self.bad(text, place)
        return place

    def changed(self, line, to, text=PAIR_TEXT):
        lines = text.split("\n")
        lines[line] = to
        return "\n".join(lines)

    def test_to_the_sign(self):
        self.assertEqual(kept(self, show_machine, PAIR), PAIR_TEXT)
        self.assertEqual(kept(self, read_machine, PAIR_TEXT), PAIR)
        least = (BARE, 1, 0, (0,), (), ())
        self.assertEqual(show_machine(least), LEAST_TEXT)
        self.assertEqual(read_machine(LEAST_TEXT), least)
        machine = (TWO, 6, 6, (0, 2, 5), (1, 3), (("close", 5, 4, "down", 0), ("plain", 0, "dot", 5)))
        text = "opens z up\nplains m dot\ncloses y down\nrooms 6\nmarks 6\nfirsts 0 2 5\nlasts 1 3\n"
        text += "close 5 4 down 0\nplain 0 dot 5"
        self.assertEqual(show_machine(machine), text)
        self.assertEqual(read_machine(text), machine)

    def test_shown_and_read_back(self):
        for seed in range(80):
            sheet = (ONE, TWO, BARE, NAMED)[seed % 4]
            machine = some_machine(seed, sheet, 1 + seed % 6, seed % 7, 10)
            if is_machine(machine):
                self.assertEqual(kept(self, read_machine, kept(self, show_machine, machine)), machine)

    def test_letters_that_are_called_as_words(self):
        moves = (("close", 0, 0, "close", 0), ("open", 0, "is", 0, 0), ("open", 0, "open", 0, 0))
        machine = (NAMED, 1, 1, (0,), (0,), moves + (("plain", 0, "plain", 0), ("plain", 0, "rooms", 0)))
        text = show_machine(machine)
        self.assertIn("\nclose 0 0 close 0\nopen 0 is 0 0\nopen 0 open 0 0\nplain 0 plain 0\nplain 0 rooms 0", text)
        self.assertEqual(read_machine(text), machine)
        self.bad(self.changed(7, "close 0 0 plain 0", text), 7)
        self.bad(self.changed(8, "open 0 plain 0 0", text), 8)

    def test_lines_left_out_twice_and_exchanged(self):
        lines = PAIR_TEXT.split("\n")
        for at in range(7):
            self.bad("\n".join(lines[:at] + lines[at + 1 :]), at)
            self.bad("\n".join(lines[: at + 1] + lines[at:]), at + 1)
            for other in range(at + 1, len(lines)):
                row = list(lines)
                row[at], row[other] = row[other], row[at]
                self.bad("\n".join(row), at)
        for at in range(7, 10):
            self.judged("\n".join(lines[:at] + lines[at + 1 :]))
            self.bad("\n".join(lines[: at + 1] + lines[at:]), at + 1)

    def test_cut_off(self):
        lines = PAIR_TEXT.split("\n")
        for many in range(1, 7):
            self.bad("\n".join(lines[:many]), many)
        for many in range(7, 11):
            self.assertEqual(read_machine("\n".join(lines[:many])), PAIR[:5] + (PAIR[5][: many - 7],))
        for many in range(len(PAIR_TEXT)):
            self.judged(PAIR_TEXT[:many])
        self.bad("", 0)
        self.bad("opens", 0)
        self.bad("opens a", 1)
        self.bad("opens a\n", 1)

    def test_line_ends_and_blanks(self):
        self.bad(PAIR_TEXT + "\n", 10)
        self.bad("\n" + PAIR_TEXT, 0)
        self.bad(PAIR_TEXT.replace("\nrooms", "\n\nrooms"), 3)
        lines = PAIR_TEXT.split("\n")
        for at, line in enumerate(lines):
            self.bad(self.changed(at, line + " "), at)
            self.bad(self.changed(at, " " + line), at)
            self.bad(self.changed(at, line.replace(" ", "  ")), at)
            self.bad(self.changed(at, ""), at)
            self.bad(self.changed(at, " "), at)
            self.bad(self.changed(at, line.replace(" ", "\n", 1)), at + (at in (1, 6)))
        self.bad(LEAST_TEXT + " ", 6)
        self.bad(LEAST_TEXT.replace("plains", "plains "), 1)

    def test_heads(self):
        lines = PAIR_TEXT.split("\n")
        for at, line in enumerate(lines):
            head, rest = line.split(" ", 1)
            for other in (head.upper(), head[:-1], head + "s", "x", "", rest):
                self.bad(self.changed(at, f"{other} {rest}"), at)
            self.bad(self.changed(at, rest), at)
            if at != 1 and at != 6:
                self.bad(self.changed(at, head), at)

    def test_the_sheet(self):
        good = ("opens a", "opens a d e f", "opens abcdefgh", "opens lasts")
        for line in good:
            self.judged(self.changed(0, line))
        for line in ("opens a a", "opens a d e f g", "opens abcdefghi", "opens A", "opens a1", "opens 1", "opens -"):
            self.bad(self.changed(0, line), 0)
        for line in ("plains a", "plains b b", "plains b d e f g", "plains B", "plains b a"):
            self.bad(self.changed(1, line), 1)
        for line in ("closes a", "closes b", "closes c c", "closes c d e f g", "closes c b", "closes C", "closes"):
            self.bad(self.changed(2, line), 2)
        # A letter that another line needs is missed only there.
        self.bad(self.changed(1, "plains"), 9)
        self.bad(self.changed(0, "opens d"), 8)
        self.bad(self.changed(2, "closes d"), 7)

    def test_numbers(self):
        for at, head in ((3, "rooms"), (4, "marks")):
            for number in ("7", "03", "00", "+3", "-1", "-0", "12345", "00003", "1234", "x", "", "3 3", "1.0", "1_0"):
                self.bad(self.changed(at, f"{head} {number}"), at)
        self.bad(self.changed(3, "rooms 0"), 3)
        self.assertEqual(read_machine(self.changed(3, "rooms 6"))[1], 6)
        self.assertEqual(read_machine(self.changed(4, "marks 6"))[2], 6)
        self.bad(self.changed(3, "rooms 2"), 6)
        self.bad(self.changed(4, "marks 0"), 7)
        for row in ("0 0", "1 0", "3", "00", "01", "+0", "-0", "0 3", "0 00001", "x", "10000"):
            self.bad(self.changed(5, f"firsts {row}"), 5)
            self.bad(self.changed(6, f"lasts {row}"), 6)
        self.bad(self.changed(5, "firsts"), 5)
        self.assertEqual(read_machine(self.changed(6, "lasts"))[4], ())
        self.assertEqual(read_machine(self.changed(5, "firsts 0 1 2"))[3], (0, 1, 2))

    def test_moves(self):
        for line in (
            "close 1 0 c",
            "close 1 0 c 2 2",
            "close 1 0 a 2",
            "close 1 c 0 2",
            "close 3 0 c 2",
            "close 1 1 c 2",
            "close 1 0 c 3",
            "close 01 0 c 2",
            "close 1 +0 c 2",
            "close -1 0 c 2",
            "close 1 0 c 00002",
            "close",
            "c 1 0 c 2",
            "open 1 0 c 2",
            "plain 1 0 c 2",
        ):
            self.bad(self.changed(7, line), 7)
        for line in ("open 0 a 0", "open 0 a 0 1 1", "open 0 c 0 1", "open 0 0 a 1", "open 3 a 0 1", "open 0 a 1 1"):
            self.bad(self.changed(8, line), 8)
        for line in ("plain 1 b", "plain 1 b 1 1", "plain 1 a 1", "plain b 1 1", "plain 3 b 1", "plain 1 b 3"):
            self.bad(self.changed(9, line), 9)
        # Out of order, and twice.
        self.bad(PAIR_TEXT + "\nplain 0 b 1", 10)
        self.bad(PAIR_TEXT + "\nplain 1 b 1", 10)
        self.bad(PAIR_TEXT + "\nopen 1 a 0 1", 10)
        self.assertEqual(read_machine(PAIR_TEXT + "\nplain 1 b 2")[5][-1], ("plain", 1, "b", 2))
        self.bad(PAIR_TEXT + "\nplain 1 b 2\nx\nplain 0 b 1", 11)

    def test_240_and_241_moves(self):
        moves = tuple(all_moves(TWO, 4, 4))
        self.assertGreater(len(moves), 245)
        for many in (239, 240, 241, 245):
            machine = (TWO, 4, 4, (0,), (0,), moves[:many])
            self.assertEqual(is_machine(machine), many <= 240)
            if many <= 240:
                self.assertEqual(read_machine(show_machine(machine)), machine)
            else:
                self.bad(show_machine(machine), 247)
        self.bad(show_machine((TWO, 4, 4, (0,), (0,), moves[:240])) + "\n", 247)

    def test_greater_machines_are_shown_and_not_read_back(self):
        more = again(again(PAIR))
        text = show_machine(more)
        self.assertEqual(text.split("\n")[3:5], [f"rooms {more[1]}", f"marks {more[2]}"])
        self.assertEqual(len(text.split("\n")), 7 + len(more[5]))
        self.bad(text, 3)
        marks = show_machine(met(some_machine(5, ONE, 2, 4, 2), some_machine(6, ONE, 2, 4, 2)))
        self.assertEqual(self.judged(marks), 4)

    def test_signs_left_out_put_in_and_changed(self):
        dice = random.Random(2)
        seen = {True: 0, False: 0}
        for seed in range(400):
            machine = some_machine(seed, (ONE, TWO, BARE, NAMED)[seed % 4], 1 + seed % 4, seed % 4, 8)
            if not is_machine(machine):
                continue
            text = show_machine(machine)
            at = dice.randrange(len(text))
            sign = dice.choice("abcz0123 \n-/")
            for wrong in (text[:at] + text[at + 1 :], text[:at] + sign + text[at:], text[:at] + sign + text[at + 1 :]):
                seen[self.judged(wrong) is None] += 1
            lines = text.split("\n")
            one, other = dice.randrange(len(lines)), dice.randrange(len(lines))
            lines[one], lines[other] = lines[other], lines[one]
            self.judged("\n".join(lines))
        self.assertTrue(all(many > 30 for many in seen.values()), seen)


if __name__ == "__main__":
    unittest.main()
