"""Courses: what errands of a book and a rule make of the same steps.

A course (e, r, S) says that steps lead from the beginning of the errand e to
its row r, all errands asked on the way being back, and that what is said has
the stretch S, here its number, in the rule.
"""

from echohall.errands import rows_back
from echohall.errors import TooMany
from echohall.growth import offer
from echohall.signs import order_of
from echohall.stretches import Stretches


class Courses:
    """How the courses of a book and a rule of its sheet follow from one another."""

    def __init__(self, book, rule):
        self.sheet, self.errands = book
        self.stretches = Stretches(rule)

    def row_of(self, course):
        return self.errands[course[0]][1][course[1]]

    def begins(self):
        """The courses of no steps."""
        same = self.stretches.of_none()
        return [(errand, 0, same) for errand in range(len(self.errands))]

    def said(self, course):
        """The courses to which a say leads, in the order of its choices."""
        kind, b, turns = self.row_of(course)
        made = self.stretches.of_row(course[2], self.stretches.of_plain(b))
        return [(course[0], turn, made) for turn in turns]

    def returned(self, asker, done):
        """The courses to which it leads that a course at an ask asks, and is answered by one at a back.

        They are in the order of the choices at this back.
        """
        kind, asked, backs = self.row_of(asker)
        c = self.row_of(done)[1]
        turns = rows_back(backs, c)
        if done[0] not in asked or not turns:
            return []
        around = self.stretches.of_wrap(self.errands[done[0]][0], done[2], c)
        made = self.stretches.of_row(asker[2], around)
        return [(asker[0], turn, made) for turn in turns]


class CourseGrowth:
    """All courses, with how many letters they say at least, and the least word of each, with its choices.

    They are found by rising sizes, as steps put together never say fewer letters than each of them. Words are
    kept as numbers, and only those of at most so many letters as are asked for.
    """

    def __init__(self, rules, limit, most):
        self.rules = rules
        self.limit = limit
        self.most = most
        self.order = order_of(rules.sheet)
        self.sizes = {}
        self.leasts = {}
        self.asking = []
        self.backing = []
        self.due = {}
        for course in rules.begins():
            self.settle(course, 0, ((), ()))
        while self.due:
            self.settle_all(min(list(self.due)))

    def settle_all(self, size):
        """Settle all courses that say so many letters at least."""
        found = {}
        for made, ahead, done, picks in self.due.pop(size):
            if made not in self.sizes:
                offer(found, made, self.said_by(ahead, done, picks, size))
        for course, least in found.items():
            self.settle(course, size, least)

    def settle(self, course, size, least):
        if len(self.sizes) >= self.limit:
            raise TooMany(f"more than {self.limit} courses")
        self.sizes[course] = size
        self.leasts[course] = least
        kind = self.rules.row_of(course)[0]
        if kind == "say":
            for pick, made in enumerate(self.rules.said(course)):
                self.expect(made, course, None, (pick,))
        elif kind == "ask":
            self.asking.append(course)
            for done in self.backing:
                self.expect_back(course, done)
        else:
            self.backing.append(course)
            for asker in self.asking:
                self.expect_back(asker, course)

    def expect_back(self, asker, done):
        for pick, made in enumerate(self.rules.returned(asker, done)):
            asked = self.rules.row_of(asker)[1]
            self.expect(made, asker, done, (asked.index(done[0]), pick))

    def expect(self, made, ahead, done, picks):
        if made not in self.sizes:
            size = self.sizes[ahead] + 1
            if done is not None:
                size += self.sizes[done] + 1
            self.due.setdefault(size, []).append((made, ahead, done, picks))

    def said_by(self, ahead, done, picks, size):
        """(word, choices) of the least word of these steps; None where it is too long to be kept."""
        if size > self.most:
            return None
        word, choices = self.leasts[ahead]
        if done is None:
            b = self.rules.row_of(ahead)[1]
            return (word + (self.order[b],), choices + picks)
        within, chosen = self.leasts[done]
        a, c = self.rules.errands[done[0]][0], self.rules.row_of(done)[1]
        around = (self.order[a],) + within + (self.order[c],)
        return (word + around, choices + picks[:1] + chosen + picks[1:])
