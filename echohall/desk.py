"""A desk: machines kept under names, asked by rows of words."""

from echohall.counts import how_many
from echohall.errors import NoName, NoRow
from echohall.leasts import least_word
from echohall.numbers import number_of, word_of
from echohall.oneway import one_way
from echohall.put import again, in_row, joined, met, turned, wrapped
from echohall.saidby import machine_for
from echohall.signs import is_letter
from echohall.tellings import telling
from echohall.texts import is_number, read_machine, read_saying, read_word, show_word
from echohall.walks import lets
from echohall.watch import Watch
from echohall.within import alike, within

MOST_FIGURES = 30
# What stands behind the first word of each row. A text is all that is left of the row, blanks and all.
FORMS = {
    "machine": ("new", "text"),
    "joined": ("new", "name", "name"),
    "met": ("new", "name", "name"),
    "row": ("new", "name", "name"),
    "again": ("new", "name"),
    "wrapped": ("new", "name", "letter", "letter"),
    "turned": ("new", "name"),
    "oneway": ("new", "name"),
    "says": ("new", "name", "text"),
    "lets": ("name", "text"),
    "least": ("name",),
    "within": ("name", "name"),
    "alike": ("name", "name"),
    "kinds": ("name",),
    "many": ("name", "sixty"),
    "word": ("name", "twenty", "number"),
    "number": ("name", "text"),
    "watch": ("name",),
    "hear": ("letter",),
    "back": (),
    "rest": (),
}
MOST_OF = {"sixty": 60, "twenty": 20}
WATCHING = ("hear", "back", "rest")


def made_machine(found, words):
    # No line of a machine's text has a bar in it, so bars part lines alone.
    return read_machine("\n".join(words[1].split(" / ")))


def made_joined(found, words):
    return joined(found[0], found[1])


def made_met(found, words):
    return met(found[0], found[1])


def made_row(found, words):
    return in_row(found[0], found[1])


def made_again(found, words):
    return again(found[0])


def made_wrapped(found, words):
    return wrapped(found[0], words[2], words[3])


def made_turned(found, words):
    return turned(found[0])


def made_oneway(found, words):
    return one_way(found[0])[0]


def made_says(found, words):
    sheet = found[0][0]
    return machine_for(sheet, read_saying(sheet, words[2]))


def told_lets(found, words):
    return yes_or_no(lets(found[0], read_word(found[0][0], words[1])))


def told_least(found, words):
    kind, told = least_word(found[0])
    return f"word {show_word(told)}" if kind == "word" else "none"


def told_within(found, words):
    kind, told = within(found[0], found[1])
    return "yes" if kind == "within" else f"no {show_word(told)}"


def told_alike(found, words):
    return yes_or_no(alike(found[0], found[1])[0] == "alike")


def told_kinds(found, words):
    return str(len(telling(found[0])[1]))


def told_many(found, words):
    return str(how_many(found[0], int(words[1])))


def told_word(found, words):
    told = word_of(found[0], int(words[1]), int(words[2]))
    return "none" if told is None else f"word {show_word(told)}"


def told_number(found, words):
    told = number_of(found[0], read_word(found[0][0], words[1]))
    return "none" if told is None else str(told)


MAKERS = {
    "machine": made_machine,
    "joined": made_joined,
    "met": made_met,
    "row": made_row,
    "again": made_again,
    "wrapped": made_wrapped,
    "turned": made_turned,
    "oneway": made_oneway,
    "says": made_says,
}
TELLERS = {
    "lets": told_lets,
    "least": told_least,
    "within": told_within,
    "alike": told_alike,
    "kinds": told_kinds,
    "many": told_many,
    "word": told_word,
    "number": told_number,
}


def yes_or_no(truth):
    return "yes" if truth else "no"


def is_fit(kind, word):
    """Whether a word may stand where one of this kind is told."""
    if kind == "text":
        return True
    if kind == "new" or kind == "name":
        return is_letter(word)
    if kind == "letter":
        return word != ""
    if not is_number(word, MOST_FIGURES):
        return False
    return kind not in MOST_OF or int(word) <= MOST_OF[kind]


def parted(row):
    """(head, words behind it) of a row, refused where it is none by its words."""
    head = row.partition(" ")[0]
    if head not in FORMS or "\n" in row:
        raise NoRow("no such row")
    form = FORMS[head]
    words = row.split(" ")
    if "text" in form:
        words = row.split(" ", len(form))
    words = words[1:]
    if len(words) != len(form) or not all(is_fit(kind, word) for kind, word in zip(form, words)):
        raise NoRow(f"no such row of {head}")
    return (head, words)


class Desk:
    """Keeps machines under names, and perhaps a watch."""

    def __init__(self):
        self.machines = {}
        self.watching = None

    def say(self, row):
        head, words = parted(row)
        found = self.machines_of(head, words)
        if head in MAKERS:
            make = MAKERS[head]
            self.machines[words[0]] = make(found, words)
            return "ok"
        if head in TELLERS:
            tell = TELLERS[head]
            return tell(found, words)
        if head == "watch":
            self.watching = Watch(found[0])
            return "ok"
        return self.watched(head, words)

    def machines_of(self, head, words):
        """The machines under the names that a row asks for."""
        names = [word for kind, word in zip(FORMS[head], words) if kind == "name"]
        for name in names:
            if name not in self.machines:
                raise NoName(f"nothing stands under {name}")
        if head in WATCHING and self.watching is None:
            raise NoRow("no watch is on")
        return [self.machines[name] for name in names]

    def watched(self, head, words):
        """The answer of the watch that is on."""
        if head == "hear":
            self.watching.hear(words[0])
            return "ok"
        if head == "back":
            self.watching.back()
            return "ok"
        told = self.watching.rest()
        return "never" if told is None else f"rest {show_word(told)}"
