import unittest

from echohall import errors

PLACED = ("NoLetter", "NotShut", "NoChoice", "NoText")
WORDED = ("NoSheet", "NoOneWay", "TooMany", "NoStep", "NoName", "NoRow")
ALL = PLACED + ("TooLong",) + WORDED


class Errors(unittest.TestCase):
    def test_all_are_right_under_hallerror_and_none_under_another(self):
        self.assertEqual(errors.HallError.__bases__, (ValueError,))
        for name in ALL:
            self.assertEqual(getattr(errors, name).__bases__, (errors.HallError,), name)

    def test_fields_place(self):
        for name in PLACED:
            for place in (0, 7, 399):
                self.assertEqual(getattr(errors, name)(place).place, place)

    def test_field_size(self):
        self.assertEqual(errors.TooLong(401).size, 401)

    def test_the_others_are_made_of_a_text(self):
        for name in WORDED:
            self.assertEqual(str(getattr(errors, name)("why it is so")), "why it is so")

    def test_caught_by_hallerror_valueerror_and_its_own_class_alone(self):
        for name in ALL:
            made = getattr(errors, name)("x" if name in WORDED else 3)
            self.assertIsInstance(made, errors.HallError)
            self.assertIsInstance(made, ValueError)
            for other in ALL:
                self.assertEqual(isinstance(made, getattr(errors, other)), name == other)


if __name__ == "__main__":
    unittest.main()
