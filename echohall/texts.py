"""Words, sayings and machines written as texts, and read back.

What is read back is looked at word by word, or line by line: the first with
which no such text goes on is told by its place. As what stands ahead of it
can always be gone on with, each is judged by those ahead of it alone.
"""

from echohall.errors import NoText
from echohall.machines import MOST_MARKS, MOST_MOVES, MOST_ROOMS, are_rooms, is_move
from echohall.sayings import MOST_IN_ALL, MOST_WITHIN, PARTS
from echohall.signs import is_part

FIGURES = "0123456789"
MOST_LETTERS = 400
MOST_FIGURES = 4
NO_LETTERS = "-"


def show_word(word):
    return " ".join(word) if word else NO_LETTERS


def show_saying(saying):
    if saying[0] == "is":
        return f"is {saying[1]}"
    return " ".join([saying[0]] + [show_saying(part) for part in saying[1:]])


def show_row(head, things):
    return " ".join([head] + [str(thing) for thing in things])


def show_machine(machine):
    sheet, rooms, marks, firsts, lasts, moves = machine
    rows = [show_row("opens", sheet[0]), show_row("plains", sheet[1]), show_row("closes", sheet[2])]
    rows += [show_row("rooms", [rooms]), show_row("marks", [marks])]
    rows += [show_row("firsts", firsts), show_row("lasts", lasts)]
    rows += [show_row(move[0], move[1:]) for move in moves]
    return "\n".join(rows)


def read_word(sheet, text):
    words = text.split(" ")
    letters = sheet[0] + sheet[1] + sheet[2]
    if words[0] == NO_LETTERS:
        if len(words) > 1:
            raise NoText(1)
        return []
    for place, word in enumerate(words):
        if word not in letters or place >= MOST_LETTERS:
            raise NoText(place)
    return words


class SayingReader:
    """Reads a saying from words; place is how many of them are read, seen how many sayings are begun or due."""

    def __init__(self, sheet, words):
        self.letters = sheet[0] + sheet[1] + sheet[2]
        self.words = words
        self.place = 0
        self.seen = 1

    def now(self):
        """The word to be read now; the text ends too early where there is none."""
        if self.place == len(self.words):
            raise NoText(self.place)
        return self.words[self.place]

    def saying_at(self, level):
        head = self.now()
        if head == "is":
            self.place += 1
            return (head, self.letter_now())
        # Each part that is due will be one saying at least, so what is too much is found at the head.
        if head not in PARTS or level == MOST_WITHIN or self.seen + PARTS[head] > MOST_IN_ALL:
            raise NoText(self.place)
        self.place += 1
        self.seen += PARTS[head]
        return (head,) + tuple(self.saying_at(level + 1) for part in range(PARTS[head]))

    def letter_now(self):
        letter = self.now()
        if letter not in self.letters:
            raise NoText(self.place)
        self.place += 1
        return letter


def read_saying(sheet, text):
    reader = SayingReader(sheet, text.split(" "))
    told = reader.saying_at(1)
    if reader.place < len(reader.words):
        raise NoText(reader.place)
    return told


def is_number(word, most):
    """Whether a word writes a number, by at most so many figures."""
    if not 1 <= len(word) <= most or not all(sign in FIGURES for sign in word):
        return False
    return word == "0" or word[0] != "0"


def number_by(word):
    """The number that a word writes, None where it writes none."""
    return int(word) if is_number(word, MOST_FIGURES) else None


class MachineReader:
    """Reads a machine from lines; line is the place of the one that is read now."""

    def __init__(self, lines):
        self.lines = lines
        self.line = 0

    def need(self, is_right):
        """Refuse the line that is read now, if it isn't right."""
        if not is_right:
            raise NoText(self.line)

    def words_behind(self, head):
        """The words of the line that is read now, behind its head."""
        self.need(self.line < len(self.lines))
        words = self.lines[self.line].split(" ")
        self.need(words[0] == head)
        return words[1:]

    def read_letters(self, head, least, taken):
        """A line of letters of a sheet, unlike one another and those that are taken."""
        letters = tuple(self.words_behind(head))
        self.need(is_part(letters, least) and len(set(letters + taken)) == len(letters + taken))
        self.line += 1
        return letters

    def read_number(self, head, least, most):
        words = self.words_behind(head)
        self.need(len(words) == 1)
        number = number_by(words[0])
        self.need(number is not None and least <= number <= most)
        self.line += 1
        return number

    def read_rooms(self, head, rooms, least):
        numbers = tuple(number_by(word) for word in self.words_behind(head))
        self.need(len(numbers) >= least and are_rooms(numbers, rooms))
        self.line += 1
        return numbers

    def read_moves(self, sheet, rooms, marks):
        """All lines that are left."""
        moves = []
        while self.line < len(self.lines):
            move = move_by(self.lines[self.line].split(" "))
            self.need(is_move(sheet, rooms, marks, move) and len(moves) < MOST_MOVES)
            self.need(not moves or moves[-1] < move)
            moves.append(move)
            self.line += 1
        return tuple(moves)


def move_by(words):
    """The words of a move, with its rooms and marks as numbers; anything where they are no move's."""
    numbers = {"open": (1, 3, 4), "plain": (1, 3), "close": (1, 2, 4)}.get(words[0], ())
    return tuple(number_by(word) if at in numbers else word for at, word in enumerate(words))


def read_machine(text):
    reader = MachineReader(text.split("\n"))
    opens = reader.read_letters("opens", 1, ())
    plains = reader.read_letters("plains", 0, opens)
    closes = reader.read_letters("closes", 1, opens + plains)
    sheet = (opens, plains, closes)
    rooms = reader.read_number("rooms", 1, MOST_ROOMS)
    marks = reader.read_number("marks", 0, MOST_MARKS)
    firsts = reader.read_rooms("firsts", rooms, 1)
    lasts = reader.read_rooms("lasts", rooms, 0)
    return (sheet, rooms, marks, firsts, lasts, reader.read_moves(sheet, rooms, marks))
