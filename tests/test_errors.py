"""Point 2 and the interface's list of errors, each raised by the smallest call that is wrong in just this way."""

import unittest

from leastlearnt import errors
from leastlearnt.comparing import first_difference, least, needed_registers
from leastlearnt.learners import Learner
from leastlearnt.machines import Machine
from leastlearnt.memories import Memory
from leastlearnt.rows import alike_by, needed, row
from leastlearnt.teachers import Teacher
from tests.makers import chain, fork

KINDS = ["InvalidMachine", "InvalidMemory", "InvalidInput", "UnknownAnswer", "TooLarge", "TooManyLies",
         "Incomplete", "NothingAsked", "NoDifference", "InvalidTurns"]


class ErrorKinds(unittest.TestCase):
    def test_base(self):
        self.assertTrue(issubclass(errors.LearnError, ValueError))
        self.assertNotIn(errors.LearnError, [getattr(errors, name) for name in KINDS])

    def test_each_is_a_learn_error_and_none_of_the_others(self):
        for name in KINDS:
            kind = getattr(errors, name)
            self.assertEqual(kind.__name__, name)
            self.assertTrue(issubclass(kind, errors.LearnError))
            for other in KINDS:
                self.assertEqual(issubclass(kind, getattr(errors, other)), name == other)

    def test_each_can_be_raised_with_a_message_and_caught(self):
        for name in KINDS:
            for caught in (getattr(errors, name), errors.LearnError, ValueError):
                with self.assertRaises(caught):
                    raise getattr(errors, name)("why")


def plain_machine(answers=("no", "yes")):
    return Machine(["a"], answers, [(answers[0], 0)], [(0, "a", 0, 0, ())])


def memory(*heard, lies=0, answers=("no", "yes")):
    """A memory of the name a that has heard these answers to the empty input."""
    found = Memory(["a"], answers, lies)
    for word in heard:
        found.hear([], word)
    return found


def learner(*replies, lies=0, answers=("no", "yes")):
    found = Learner(memory(lies=lies, answers=answers))
    for value in replies:
        found.reply(value)
    return found


def large():
    return fork([1, 2, 3, 4, 4, 4], [1, 2, 3, 4, 4])


class SmallestWrongCalls(unittest.TestCase):
    def check(self, name, *calls):
        for call in calls:
            with self.assertRaises(errors.LearnError) as told:
                call()
            self.assertIsInstance(told.exception, ValueError)
            for other in KINDS:
                self.assertEqual(isinstance(told.exception, getattr(errors, other)), name == other)

    def test_invalid_machine(self):
        self.check("InvalidMachine",
                   lambda: Machine([], ["no", "yes"], [("no", 0)], []),
                   lambda: Machine(["a"], ["no", "yes"], [("no", 0)], []),
                   lambda: first_difference(plain_machine(), plain_machine(("yes", "no"))),
                   lambda: Teacher(plain_machine()).judge(plain_machine(("yes", "no"))),
                   lambda: Teacher(plain_machine(("yes", "no"))).teach(learner("no", "no"), 1))

    def test_invalid_memory(self):
        self.check("InvalidMemory", lambda: Memory([], ["no", "yes"], 0), lambda: Memory(["a"], ["no"], 0),
                   lambda: Memory(["a"], ["no", "yes"], 4), lambda: Memory(["a"], ["no", "yes"], True))

    def test_invalid_input(self):
        self.check("InvalidInput", lambda: memory().hear([("b", 0)], "no"), lambda: memory().standing([("b", 0)]),
                   lambda: memory().possible([("b", 0)]), lambda: memory().heard([("b", 0)]),
                   lambda: memory().change(["b"]), lambda: learner("no", "no").reply([("b", 0)]))

    def test_unknown_answer(self):
        self.check("UnknownAnswer", lambda: memory().hear([], "so"), lambda: learner().reply("so"),
                   lambda: Teacher(plain_machine(("so", "no"))).teach(learner(), 1))

    def test_too_large(self):
        first, second = chain("a", [0, 1, 2, 3, 4, 4, 4]), chain("b", [0, 1, 2, 3, 4, 4, 4])
        self.check("TooLarge", lambda: first_difference(first, second), lambda: least(large()),
                   lambda: Teacher(first).judge(second))
        self.assertEqual(needed_registers(first, 1), [])

    def test_too_many_lies(self):
        self.check("TooManyLies", lambda: memory("no").hear([], "yes"),
                   lambda: learner("no", "yes", lies=1, answers=("no", "yes", "so")).reply("so"),
                   lambda: Teacher(plain_machine(("so", "no", "yes"))).teach(
                       learner("no", "yes", lies=1, answers=("so", "no", "yes")), 1))

    def test_incomplete(self):
        self.check("Incomplete", lambda: row(memory(), [], [[]]), lambda: needed(memory(), [], [[]]),
                   lambda: alike_by(memory(), [], [], [[]]))

    def test_nothing_asked(self):
        self.check("NothingAsked", lambda: learner("no", "no", True).reply(True))

    def test_no_difference(self):
        self.check("NoDifference", lambda: learner("no", "no").reply([]))

    def test_invalid_turns(self):
        self.check("InvalidTurns", lambda: Teacher(plain_machine(), [-1]), lambda: Teacher(plain_machine(), [], [-1]),
                   lambda: Teacher(plain_machine(), [0], [0]), lambda: Teacher(plain_machine(), [True]))


if __name__ == "__main__":
    unittest.main()
