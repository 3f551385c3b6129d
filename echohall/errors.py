"""The refusals of Echohall."""


class HallError(ValueError):
    """What all refusals have in common."""


class NoLetter(HallError):
    """A text that is no letter of the sheet."""

    def __init__(self, place):
        super().__init__(f"no such letter at place {place}")
        self.place = place


class NotShut(HallError):
    """A bare close, or an open that isn't answered."""

    def __init__(self, place):
        super().__init__(f"not shut at place {place}")
        self.place = place


class NoChoice(HallError):
    """A choice that can't be made."""

    def __init__(self, place):
        super().__init__(f"no such choice at place {place}")
        self.place = place


class NoText(HallError):
    """A text that can't be read back."""

    def __init__(self, place):
        super().__init__(f"no such text at place {place}")
        self.place = place


class TooLong(HallError):
    """A least word with more letters than were let."""

    def __init__(self, size):
        super().__init__(f"it has {size} letters")
        self.size = size


class NoSheet(HallError):
    """Two things that aren't of one sheet."""


class NoOneWay(HallError):
    """A machine that isn't one way."""


class TooMany(HallError):
    """More things than the limit lets."""


class NoStep(HallError):
    """No letter is left that could be taken back."""


class NoName(HallError):
    """A name under which nothing stands."""


class NoRow(HallError):
    """A row that says nothing to a desk."""
