"""The names and arguments that the interface lists, each in its module."""

import importlib
import inspect
import unittest

FUNCTIONS = {
    "signs": ("is_letter(thing)", "is_sheet(thing)", "is_less(sheet, one, other)"),
    "nests": (
        "answers(sheet, word)",
        "is_shut(sheet, word)",
        "depth_of(sheet, word)",
        "boughs(sheet, word)",
        "word_by(boughs)",
    ),
    "machines": ("is_machine(thing)", "is_one_way(machine)"),
    "walks": ("walk(machine, word)", "lets(machine, word)"),
    "looks": ("is_walk(machine, word, moves)", "shows_bar(machine, word, lists)"),
    "oneway": ("one_way(machine, limit=16)",),
    "put": (
        "joined(one, other)",
        "met(one, other)",
        "in_row(one, other)",
        "again(machine)",
        "wrapped(machine, a, c)",
        "turned(machine)",
    ),
    "cuts": ("cut_of(one, other, word)", "cuts_of(machine, word)", "are_cuts(machine, word, places)"),
    "leasts": ("least_word(machine, most=400)", "least_between(machine, most=400)", "shows_none(machine, pairs)"),
    "within": (
        "within(one, other, limit=16, most=400)",
        "alike(one, other, limit=16, most=400)",
        "shows_within(one, other, span)",
    ),
    "tellings": (
        "telling(machine, limit=16, most=400)",
        "kind_of(telling, word)",
        "machine_by(telling)",
        "is_telling(thing)",
    ),
    "partings": ("parting(telling, k, l)", "is_parting(telling, k, l, left, right)"),
    "great": (
        "is_great(sheet, thing)",
        "length_of(great)",
        "deepest_of(sheet, great)",
        "many_of(great, letter)",
        "letter_at(great, place)",
        "answer_at(sheet, great, place)",
        "written(great)",
    ),
    "judged": ("kind_by(telling, great)", "lets_great(machine, great, limit=16)"),
    "counts": ("how_many(machine, n)", "within_depth(machine, n, deep)", "kinds_counted(telling, n)"),
    "numbers": ("word_of(machine, n, k)", "number_of(machine, word)"),
    "errands": ("is_book(thing)", "run_of(book, choices)", "machine_of(book)"),
    "rules": ("keeps(book, rule, limit=16, most=400)", "shows_keeps(book, rule, table)"),
    "sayings": ("is_saying(sheet, thing)", "truths(sheet, word, saying)"),
    "saidby": ("machine_for(sheet, saying, limit=16)",),
    "losses": ("shows_loss(machine, letters, loss)",),
    "texts": (
        "show_word(word)",
        "show_saying(saying)",
        "show_machine(machine)",
        "read_word(sheet, text)",
        "read_saying(sheet, text)",
        "read_machine(text)",
    ),
}
CLASSES = {
    ("watch", "Watch"): (
        "__init__(self, machine)",
        "hear(self, letter)",
        "back(self)",
        "heard(self)",
        "deep(self)",
        "rest(self, most=400)",
        "loss(self)",
    ),
    ("desk", "Desk"): ("__init__(self)", "say(self, row)"),
}


class Interface(unittest.TestCase):
    def test_functions(self):
        for module, rows in FUNCTIONS.items():
            names = vars(importlib.import_module(f"echohall.{module}"))
            for row in rows:
                function = names[row.partition("(")[0]]
                self.assertEqual(function.__name__ + str(inspect.signature(function)), row)
                self.assertEqual(function.__module__, f"echohall.{module}")

    def test_classes(self):
        for (module, name), rows in CLASSES.items():
            made = getattr(importlib.import_module(f"echohall.{module}"), name)
            for row in rows:
                # In the class itself, and not only in one that it is under.
                method = vars(made)[row.partition("(")[0]]
                self.assertEqual(method.__name__ + str(inspect.signature(method)), row)


if __name__ == "__main__":
    unittest.main()
