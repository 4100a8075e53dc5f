import copy
import unittest

from cursorkeys import errors
from cursorkeys.errors import CursorsMeet, KeyListError, TooLong

PLAIN = (
    "InvalidText", "InvalidCursors", "InvalidKeys", "InvalidLayout", "InvalidRuns",
    "InvalidIndex", "HasMoves", "InvalidForm", "InvalidRounds", "InvalidEffect",
    "NotKeys", "NothingToUndo", "InvalidState",
)


class Errors(unittest.TestCase):
    def test_base(self):
        self.assertEqual(KeyListError.__bases__, (ValueError,))

    def test_plain_errors_take_no_argument(self):
        for name in PLAIN:
            with self.subTest(name):
                error = getattr(errors, name)()
                self.assertIsInstance(error, KeyListError)
                self.assertIsInstance(error, ValueError)

    def test_cursors_meet_has_key(self):
        self.assertEqual(CursorsMeet(3).key, 3)
        self.assertEqual(CursorsMeet(key=7).key, 7)
        self.assertEqual(copy.copy(CursorsMeet(3)).key, 3)

    def test_too_long_has_limit(self):
        self.assertEqual(TooLong(300).limit, 300)
        self.assertEqual(TooLong(limit=5).limit, 5)
        self.assertEqual(copy.copy(TooLong(300)).limit, 300)

    def test_no_error_is_above_another_one(self):
        names = PLAIN + ("CursorsMeet", "TooLong")
        for name in names:
            for other in names:
                with self.subTest(name=name, other=other):
                    below = issubclass(getattr(errors, name), getattr(errors, other))
                    self.assertEqual(below, name == other)

    def test_errors_are_defined_in_their_file(self):
        for name in PLAIN + ("CursorsMeet", "TooLong", "KeyListError"):
            with self.subTest(name):
                self.assertEqual(getattr(errors, name).__module__, "cursorkeys.errors")


if __name__ == "__main__":
    unittest.main()
