"""Letters heard one by one, and how it may still end well."""

from echohall.errors import NoStep
from echohall.growth import letters_by, need_short
from echohall.homeward import Homeward
from echohall.losses import loss_of
from echohall.trail import Trail

MOST = 400


class Watch:
    """A watch of a machine."""

    def __init__(self, machine):
        self.machine = machine
        self.trail = Trail(machine)
        # These are made when they are asked for: of each level that is begun, the outermost first, the table stays.
        self.homeward = None
        self.tables = []

    def hear(self, letter):
        self.trail.go(letter)
        self.forget()

    def back(self):
        if not self.trail.letters:
            raise NoStep("no letter is left")
        self.trail.go_back()
        self.forget()

    def forget(self):
        """Keep no table of a level that isn't begun any more."""
        self.tables = self.tables[: self.deep() + 1]

    def heard(self):
        return list(self.trail.letters)

    def deep(self):
        return len(self.trail.unanswered)

    def rest(self, most=400):
        self.get_homeward(most)
        least = self.homeward.least_rest(self.trail.lists[-1], self.table())
        if least is None:
            return None
        need_short([least[0]], most)
        return letters_by(self.machine[0], least[1])

    def get_homeward(self, most):
        """See that rests of at most so many letters are kept."""
        if self.homeward is None or self.homeward.most < most:
            self.homeward = Homeward(self.machine, self.trail.steps, max(most, MOST))
            self.tables = []

    def table(self):
        """The table of the innermost level."""
        if not self.tables:
            self.tables.append(self.homeward.outermost())
        begun = self.trail.levels_begun()
        while len(self.tables) <= len(begun):
            self.tables.append(self.homeward.inner(begun[len(self.tables) - 1], self.tables[-1]))
        return self.tables[-1]

    def loss(self):
        self.get_homeward(MOST)
        return loss_of(self.machine, self.trail, self.homeward.reach)
