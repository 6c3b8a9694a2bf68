import unittest

from slackrods import errors

PLAIN = (
    "InvalidSlack", "InvalidTimes", "NotForward", "TooGreat", "InvalidPlace", "InvalidCount", "InvalidRange",
    "OutOfBound", "Contradiction", "InvalidName", "UnknownName", "InvalidPanel", "UnlikeRigs",
)
INDEXED = ("InvalidRow", "InvalidEnds", "InvalidMemory", "NotationError", "InvalidOperation", "InvalidRecording")


class ErrorTest(unittest.TestCase):
    def test_base(self):
        self.assertEqual(errors.RodError.__bases__, (ValueError,))

    def test_each_stands_straight_under_rod_error(self):
        for name in PLAIN + INDEXED + ("DecodeError",):
            with self.subTest(name=name):
                self.assertEqual(getattr(errors, name).__bases__, (errors.RodError,))

    def test_plain_errors_can_be_raised(self):
        for name in PLAIN:
            with self.subTest(name=name), self.assertRaises(errors.RodError):
                raise getattr(errors, name)("why")

    def test_index(self):
        for name in INDEXED:
            with self.subTest(name=name):
                self.assertEqual(getattr(errors, name)(7).index, 7)
                self.assertIn("7", str(getattr(errors, name)(7)))

    def test_offset(self):
        self.assertEqual(errors.DecodeError(3).offset, 3)
        self.assertIn("3", str(errors.DecodeError(3)))


if __name__ == "__main__":
    unittest.main()
