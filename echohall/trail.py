"""The holds of a machine behind letters that are heard one by one, and taken back again."""

from echohall.errors import NoLetter, NotShut
from echohall.steps import Steps, around, begun, led_onward, behind_open, behind_plain


class Trail:
    """Letters with no bare close among them, and the holds ahead of each of them and behind all."""

    def __init__(self, machine):
        self.sheet = machine[0]
        self.steps = Steps(machine)
        self.letters = []
        self.lists = [begun(machine)]
        # The places of the opens that aren't answered, and for each letter the place of the open that it answers.
        self.unanswered = []
        self.starts = []

    def go(self, letter):
        start = self.start_of(letter)
        self.lists.append(self.holds_behind(letter, start))
        if letter in self.sheet[0]:
            self.unanswered.append(len(self.letters))
        elif start is not None:
            self.unanswered.pop()
        self.letters.append(letter)
        self.starts.append(start)

    def start_of(self, letter):
        """The place of the open that a letter would answer here, None of opens and plains."""
        opens, plains, closes = self.sheet
        if letter in opens or letter in plains:
            return None
        if letter not in closes:
            raise NoLetter(len(self.letters))
        if not self.unanswered:
            raise NotShut(len(self.letters))
        return self.unanswered[-1]

    def holds_behind(self, letter, start):
        holds = self.lists[-1]
        if start is not None:
            return led_onward(self.lists[start], around(self.steps, self.letters[start], holds, letter))
        if letter in self.sheet[0]:
            return behind_open(self.steps, holds, letter)
        return behind_plain(self.steps, holds, letter)

    def go_back(self):
        """Take back the last letter, which there must be."""
        letter = self.letters.pop()
        start = self.starts.pop()
        self.lists.pop()
        if letter in self.sheet[0]:
            self.unanswered.pop()
        elif start is not None:
            self.unanswered.append(start)

    def levels_begun(self):
        """(open, holds ahead of it) for each open that isn't answered, the outermost first."""
        return [(self.letters[place], self.lists[place]) for place in self.unanswered]
