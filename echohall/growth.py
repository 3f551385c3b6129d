"""All triples of two machines, each with its least word.

The triples are found by rising sizes: how many letters their least words have.
Putting lesser words together never brings forth a greater one than putting
greater words together, so what is least of all that is left is settled. Words
are kept as the numbers of their letters in the order of the sheet, and only
those of at most so many letters as are asked for: of the others, which may
have very many, it is enough to know the size.
"""

from echohall.errors import TooLong, TooMany
from echohall.signs import order_of


class Growth:
    """The sizes and least words of all triples; refused where there are more than limit, if one is given."""

    def __init__(self, rules, limit, most):
        self.rules = rules
        self.limit = limit
        self.most = most
        self.order = order_of(rules.sheet)
        self.sizes = {}
        self.words = {}
        self.part_sizes = {}
        self.part_words = {}
        self.ending = {}
        self.starting = {}
        self.wraps_due = {}
        self.rows_due = {}
        self.grow()

    def grow(self):
        for triple in self.rules.begins():
            self.add_triple(triple, 0, ())
        for b in self.rules.sheet[1]:
            for part in self.rules.plain_parts(b):
                if part not in self.part_sizes:
                    self.add_part(part, 1, (self.order[b],))
        while self.wraps_due or self.rows_due:
            self.settle(min(list(self.wraps_due) + list(self.rows_due)))

    def settle(self, size):
        """Find all parts, then all triples, whose least words have so many letters."""
        parts = self.least_parts(self.wraps_due.pop(size, []), size)
        for part, word in parts.items():
            self.add_part(part, size, word)
        # The parts just found may be such words themselves, so these are looked for behind them.
        triples = self.least_triples(self.rows_due.pop(size, []), size)
        for triple, word in triples.items():
            self.add_triple(triple, size, word)

    def add_triple(self, triple, size, word):
        self.need_few(self.sizes)
        self.sizes[triple] = size
        self.words[triple] = word
        self.ending.setdefault(triple[1], []).append(triple)
        self.wraps_due.setdefault(size + 2, []).append(triple)
        for part in self.starting.get(triple[1], []):
            self.expect(triple, part)

    def add_part(self, part, size, word):
        # A part is a word too, so there are never more parts than triples.
        self.need_few(self.part_sizes)
        self.part_sizes[part] = size
        self.part_words[part] = word
        self.starting.setdefault(part[0], []).append(part)
        for triple in self.ending.get(part[0], []):
            self.expect(triple, part)

    def need_few(self, found):
        if self.limit is not None and len(found) >= self.limit:
            raise TooMany(f"more than {self.limit} triples")

    def expect(self, triple, part):
        made = self.rules.behind(triple, part)
        if made not in self.sizes:
            size = self.sizes[triple] + self.part_sizes[part]
            self.rows_due.setdefault(size, []).append((made, triple, part))

    def least_parts(self, inners, size):
        """The new parts with words of these triples in them, each with the least word of this size."""
        found = {}
        for triple in inners:
            for a in self.rules.sheet[0]:
                for c in self.rules.sheet[2]:
                    self.offer_wraps(found, triple, (a, c), size)
        return found

    def offer_wraps(self, found, triple, letters, size):
        a, c = letters
        parts = self.rules.wrap_parts(triple, a, c)
        new = [part for part in parts if part not in self.part_sizes]
        if new:
            word = None
            if size <= self.most:
                word = (self.order[a],) + self.words[triple] + (self.order[c],)
            for part in new:
                offer(found, part, word)

    def least_triples(self, rows, size):
        """The new triples among these, each with the least word of this size."""
        found = {}
        for made, triple, part in rows:
            if made not in self.sizes:
                word = None
                if size <= self.most:
                    word = self.words[triple] + self.part_words[part]
                offer(found, made, word)
        return found

    def least_of(self, triples):
        """(size, word) of the least word of all of these triples, the word as numbers; None of no triples."""
        least = min([self.sizes[triple] for triple in triples], default=None)
        if least is None:
            return None
        if least > self.most:
            return (least, None)
        return (least, min([self.words[triple] for triple in triples if self.sizes[triple] == least]))


def offer(found, key, word):
    """Note a word under a key, if it is lesser than the one there; all have as many letters."""
    if key not in found or (word is not None and word < found[key]):
        found[key] = word


def need_short(sizes, most):
    """Refuse least words if one of them has more letters than most."""
    longest = max(sizes)
    if longest > most:
        raise TooLong(longest)


def letters_by(sheet, word):
    """The letters of a word that is kept as numbers, as a new list."""
    letters = sheet[0] + sheet[1] + sheet[2]
    return [letters[number] for number in word]
