import unittest

from echohall.machines import is_machine, is_one_way
from tests.helps import ONE, TWO, all_moves, kept

MOVES = (
    ("close", 1, 0, "c", 0),
    ("open", 0, "a", 0, 1),
    ("open", 1, "a", 1, 1),
    ("plain", 0, "b", 0),
    ("plain", 1, "b", 1),
)
GOOD = (ONE, 2, 2, (0,), (0, 1), MOVES)


def with_part(at, part, machine=GOOD):
    return machine[:at] + (part,) + machine[at + 1 :]


class Machines(unittest.TestCase):
    def holds(self, thing, good=True):
        self.assertIs(kept(self, is_machine, thing), good, thing)

    def test_ordinary(self):
        self.holds(GOOD)
        self.holds((TWO, 3, 1, (0, 2), (), (("open", 2, "up", 0, 1), ("plain", 0, "dot", 2))))

    def test_sheets(self):
        for sheet in ((), (("a",), ("b",)), [("a",), ("b",), ("c",)], (("a",), ("b",), ("b",)), None, "abc"):
            self.holds(with_part(0, sheet), False)
            self.holds((sheet, 1, 0, (0,), (), ()), False)

    def test_how_many_rooms(self):
        for rooms in range(-1, 9):
            self.holds((ONE, rooms, 0, (0,), (), ()), 1 <= rooms <= 6)
        self.holds((ONE, 6, 0, (5,), (0, 5), (("plain", 5, "b", 5),)))
        for rooms in (True, False, None, "1", (1,), [1]):
            self.holds((ONE, rooms, 0, (0,), (), ()), False)

    def test_how_many_marks(self):
        for marks in range(-1, 9):
            self.holds((ONE, 1, marks, (0,), (), ()), 0 <= marks <= 6)
        self.holds((ONE, 1, 6, (0,), (), (("close", 0, 5, "c", 0), ("open", 0, "a", 5, 0))))
        for marks in (True, False, None, "1", (1,), [1]):
            self.holds((ONE, 1, marks, (0,), (), ()), False)

    def test_firsts_and_lasts(self):
        for at in (3, 4):
            self.holds(with_part(at, ()), at == 4)
            for rooms in ((0,), (1,), (0, 1)):
                self.holds(with_part(at, rooms))
            for rooms in ((1, 0), (0, 0), (0, 1, 1), (2,), (0, 2), (-1,), (-1, 0), [0], [], 0, None, "0"):
                self.holds(with_part(at, rooms), False)
            for rooms in ((True,), (False,), (0, True), (False, 1), ("0",), (None,), ((0,),), ([0],), (0, "1")):
                self.holds(with_part(at, rooms), False)

    def test_how_many_moves(self):
        moves = tuple(all_moves(TWO, 4, 5))
        self.assertGreater(len(moves), 241)
        self.holds((TWO, 4, 5, (0,), (), moves[:240]))
        self.holds((TWO, 4, 5, (0,), (), moves[:241]), False)
        self.holds((TWO, 4, 5, (0,), (), moves[-240:]))
        self.holds((TWO, 4, 5, (0,), (), moves[-241:]), False)
        self.holds(with_part(5, ()))

    def test_moves_rising_and_none_twice(self):
        for at in range(len(MOVES) - 1):
            self.holds(with_part(5, MOVES[:at] + (MOVES[at + 1], MOVES[at]) + MOVES[at + 2 :]), False)
            self.holds(with_part(5, MOVES[: at + 1] + MOVES[at:]), False)
        self.holds(with_part(5, MOVES[::-1]), False)
        self.holds(with_part(5, list(MOVES)), False)
        for moves in (None, 0, "moves", True, {}):
            self.holds(with_part(5, moves), False)

    def test_moves_of_another_form(self):
        for move in (
            ("shut", 0, "b", 0),
            ("shut", 0, "a", 0, 0),
            ("shut", 0, 0, "c", 0),
            ("Plain", 0, "b", 0),
            ("plain", 0, "b"),
            ("plain", 0, "b", 0, 0),
            ("plain", 0, 0, "b", 0),
            ("open", 0, "a", 0),
            ("open", 0, "a", 0, 0, 0),
            ("open", 0, 0, "a", 0),
            ("close", 0, 0, "c"),
            ("close", 0, "c", 0, 0),
            ("close", 0, 0, "c", 0, 0),
            ("plain",),
            (),
            [],
            ["plain", 0, "b", 0],
            "plain",
            "open",
            ("opens", 0, "a", 0, 0),
            (0, 0, "b", 0),
            (None, 0, "a", 0, 0),
            (("plain",), 0, "b", 0),
            0,
            None,
            True,
        ):
            self.holds(with_part(5, (move,)), False)
            self.holds(with_part(5, (move, ("plain", 1, "b", 1))), False)
            self.holds(with_part(5, (("close", 0, 0, "c", 0), move)), False)

    def test_moves_by_letters_of_another_part(self):
        for letter in ("a", "b", "c", "d", "", 0, None, True, ("b",), ["b"]):
            self.holds(with_part(5, (("plain", 0, letter, 0),)), letter == "b")
            self.holds(with_part(5, (("open", 0, letter, 0, 0),)), letter == "a")
            self.holds(with_part(5, (("close", 0, 0, letter, 0),)), letter == "c")

    def test_moves_of_rooms_and_marks_beyond(self):
        for wrong in (2, 3, -1, True, False, None, "0", (0,), [0]):
            for move in (
                ("plain", wrong, "b", 0),
                ("plain", 0, "b", wrong),
                ("open", wrong, "a", 0, 0),
                ("open", 0, "a", wrong, 0),
                ("open", 0, "a", 0, wrong),
                ("close", wrong, 0, "c", 0),
                ("close", 0, wrong, "c", 0),
                ("close", 0, 0, "c", wrong),
            ):
                self.holds(with_part(5, (move,)), False)
        self.holds((ONE, 1, 0, (0,), (), (("open", 0, "a", 0, 0),)), False)
        self.holds((ONE, 3, 1, (0,), (), (("open", 0, "a", 1, 0),)), False)
        self.holds((ONE, 3, 1, (0,), (), (("open", 2, "a", 0, 2),)))

    def test_things_of_other_kinds(self):
        deep = 0
        for _ in range(24):
            deep = [deep]
        for thing in (None, True, 0, "", "machine", (), [], (GOOD,), list(GOOD), GOOD[:5], GOOD + (0,), deep):
            self.holds(thing, False)
        self.holds((deep,) * 6, False)
        for at in range(6):
            self.holds(with_part(at, deep), False)
            self.holds(with_part(at, (deep,)), False)
        self.holds((0,) * 3000, False)
        self.holds(with_part(5, (0,) * 2900), False)


class OneWay(unittest.TestCase):
    def told(self, machine, good):
        self.assertIs(kept(self, is_one_way, machine), good)

    def test_ordinary(self):
        self.told(GOOD, True)
        self.told((ONE, 1, 0, (0,), (), ()), True)

    def test_one_first_room(self):
        self.told(with_part(3, (0, 1)), False)
        self.told(with_part(3, (1,)), True)

    def test_one_move_for_a_room_and_an_open(self):
        self.told(with_part(5, (("open", 0, "a", 0, 0), ("open", 0, "a", 0, 1))), False)
        self.told(with_part(5, (("open", 0, "a", 0, 0), ("open", 0, "a", 1, 0))), False)
        self.told(with_part(5, (("open", 0, "a", 0, 0), ("open", 1, "a", 0, 0))), True)
        self.told((TWO, 1, 1, (0,), (), (("open", 0, "up", 0, 0), ("open", 0, "z", 0, 0))), True)

    def test_one_move_for_a_room_and_a_plain(self):
        self.told(with_part(5, (("plain", 0, "b", 0), ("plain", 0, "b", 1))), False)
        self.told(with_part(5, (("plain", 0, "b", 0), ("plain", 1, "b", 0))), True)
        self.told((TWO, 1, 1, (0,), (), (("plain", 0, "dot", 0), ("plain", 0, "m", 0))), True)

    def test_one_move_for_a_room_a_mark_and_a_close(self):
        self.told(with_part(5, (("close", 0, 0, "c", 0), ("close", 0, 0, "c", 1))), False)
        self.told(with_part(5, (("close", 0, 0, "c", 0), ("close", 0, 1, "c", 0))), True)
        self.told(with_part(5, (("close", 0, 0, "c", 0), ("close", 1, 0, "c", 0))), True)
        self.told((TWO, 1, 1, (0,), (), (("close", 0, 0, "down", 0), ("close", 0, 0, "y", 0))), True)

    def test_greater_than_a_machine_is(self):
        moves = tuple(("plain", p, "b", p + 1) for p in range(300))
        self.told((ONE, 301, 9, (0,), (300,), moves), True)
        self.told((ONE, 301, 9, (0,), (300,), moves + (("plain", 299, "b", 301),)), False)


if __name__ == "__main__":
    unittest.main()
