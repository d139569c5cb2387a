import unittest

from piecetold import errors
from piecetold.errors import PieceError

NAMES = [
    "InvalidProgram", "InvalidChain", "InvalidBeginning", "InvalidInput", "InvalidClass", "InvalidDeed",
    "NoSuchPiece", "NoSuchPlace", "TooMuch", "NothingToUndo", "NothingToRedo", "InvalidWorker", "ToldOther",
    "InvalidDesk", "NoSuchChannel",
]


class ErrorsTest(unittest.TestCase):
    def test_the_base_is_a_value_error(self):
        self.assertEqual(PieceError.__bases__, (ValueError,))

    def test_there_are_fifteen_kinds_each_straight_below_the_base(self):
        self.assertEqual(len(NAMES), 15)
        for name in NAMES:
            with self.subTest(name):
                self.assertEqual(getattr(errors, name).__bases__, (PieceError,))
                self.assertEqual(getattr(errors, name).__module__, "piecetold.errors")

    def test_none_is_the_base_of_another(self):
        for name in NAMES:
            for other in NAMES:
                if name != other:
                    self.assertFalse(issubclass(getattr(errors, name), getattr(errors, other)))

    def test_each_can_be_raised_and_caught_by_its_name_and_its_bases(self):
        for name in NAMES:
            for kind in (getattr(errors, name), PieceError, ValueError):
                with self.assertRaises(kind):
                    raise getattr(errors, name)("why")


if __name__ == "__main__":
    unittest.main()
