"""Point 2 and the interface's list of errors."""

import unittest

from leastlearnt import errors

KINDS = ["InvalidMachine", "InvalidMemory", "InvalidInput", "UnknownAnswer", "TooLarge", "TooManyLies",
         "Incomplete", "NothingAsked", "NoDifference", "InvalidTurns"]


class ErrorKinds(unittest.TestCase):
    def test_base(self):
        self.assertTrue(issubclass(errors.LearnError, ValueError))
        self.assertNotIn(errors.LearnError, [getattr(errors, name) for name in KINDS])

    def test_each_is_a_learn_error_and_none_of_the_others(self):
        for name in KINDS:
            kind = getattr(errors, name)
            self.assertEqual(kind.__name__, name)
            self.assertTrue(issubclass(kind, errors.LearnError))
            for other in KINDS:
                self.assertEqual(issubclass(kind, getattr(errors, other)), name == other)

    def test_each_can_be_raised_with_a_message_and_caught(self):
        for name in KINDS:
            for caught in (getattr(errors, name), errors.LearnError, ValueError):
                with self.assertRaises(caught):
                    raise getattr(errors, name)("why")


if __name__ == "__main__":
    unittest.main()
