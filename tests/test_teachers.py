"""Points 2 and 21: teachers."""

import unittest

from leastlearnt.comparing import first_difference
from leastlearnt.errors import InvalidMachine, InvalidTurns, NoDifference, TooLarge, TooManyLies, UnknownAnswer
from leastlearnt.learners import Learner
from leastlearnt.machines import Machine, answer
from leastlearnt.memories import Memory
from leastlearnt.teachers import Teacher
from tests.makers import Dice, chain, changed_rule, rising, small_machine, writing

HUGE = 10 ** 40


def counter():
    """Answers a, b, c, d in turn, one message after the other."""
    rules = [(state, "put", 0, (state + 1) % 4, ()) for state in range(4)]
    return Machine(["put"], ["d", "b", "a", "c"], [("a", 0), ("b", 0), ("c", 0), ("d", 0)], rules)


def never(names=("put",), answers=("no", "yes")):
    return Machine(names, answers, [(answers[0], 0)], [(0, name, 0, 0, ()) for name in names])


class Asking(unittest.TestCase):
    def test_right_answers(self):
        dice = Dice(71)
        for _ in range(20):
            machine = small_machine(dice)
            teacher = Teacher(machine)
            for at in range(20):
                self.assertEqual(teacher.asked(), at)
                messages = [(dice.pick("ab"), dice.below(5) * HUGE) for _ in range(dice.below(6))]
                self.assertEqual(teacher.ask(messages), answer(machine, messages))
            self.assertEqual(teacher.asked(), 20)

    def test_wrong_and_silent_turns(self):
        told = ["a", "b", "c", "d"]
        following = {"d": "b", "b": "a", "a": "c", "c": "d"}
        for wrong, silent in (([0, 3, 4], [1, 7]), ([], []), ([2], []), ([], [0, 1]), (list(range(8)), []),
                              ([1, HUGE], [6, HUGE + 1])):
            teacher = Teacher(counter(), wrong, silent)
            for at in range(8):
                right = told[at % 4]
                found = teacher.ask([("put", 0)] * at)
                self.assertEqual(found, None if at in silent else following[right] if at in wrong else right)
            self.assertEqual(teacher.asked(), 8)

    def test_after_the_last_answer_comes_the_first(self):
        teacher = Teacher(counter(), [0, 1, 2, 3])
        self.assertEqual([teacher.ask([("put", 0)] * at) for at in (3, 1, 0, 2)], ["b", "a", "c", "d"])

    def test_the_same_question_counts_each_time(self):
        teacher = Teacher(rising(), [1], [2])
        self.assertEqual([teacher.ask([]) for _ in range(4)], ["no", "yes", None, "no"])
        self.assertEqual((teacher.asked(), teacher.asked()), (4, 4))

    def test_lists_and_tuples(self):
        teacher = Teacher(rising(), (), [])
        for messages in ([("put", 1), ("put", 2)], (["put", -HUGE], ["put", 2]), [["put", 1], ["put", HUGE]]):
            self.assertEqual(teacher.ask(messages), "yes")

    def test_turns_may_be_left_out(self):
        self.assertEqual(Teacher(rising()).ask([]), "no")
        self.assertEqual(Teacher(rising(), [0]).ask([]), "yes")
        self.assertEqual(Teacher(rising(), wrong=[0]).ask([]), "yes")
        self.assertIsNone(Teacher(rising(), silent=(0,)).ask([]))
        self.assertIsNone(Teacher(rising(), [], [0]).ask([]))

    def test_turns_are_copied(self):
        wrong, silent = [0, 2], [1]
        teacher = Teacher(rising(), wrong, silent)
        wrong.pop()
        wrong[0] = 5
        silent.clear()
        self.assertEqual([teacher.ask([]) for _ in range(6)], ["yes", None, "yes", "no", "no", "no"])
        self.assertEqual((wrong, silent), ([5], []))


class Turns(unittest.TestCase):
    def refuse(self, wrong, silent):
        with self.assertRaises(InvalidTurns) as told:
            Teacher(rising(), wrong, silent)
        self.assertIs(type(told.exception), InvalidTurns)

    def test_wrong_kinds(self):
        for part in (None, True, False, "", "0", "a", (0,), [1], [], ()):
            for turns in ([part], [0, part], [part, 5], (part,)):
                self.refuse(turns, [])
                self.refuse([], turns)
        for turns in (None, True, False, 0, 3, "", "a", "01"):
            self.refuse(turns, ())
            self.refuse((), turns)

    def test_order_and_size(self):
        for turns in ([-1], [-1, 0], [-HUGE, 3], [0, 0], [1, 0], [0, 2, 1], [0, 1, 1], [3, 4, 5, 5], [HUGE, 0]):
            for passed in (turns, tuple(turns)):
                self.refuse(passed, [])
                self.refuse([], passed)
        for turns in ([0], [HUGE], [0, 1, 2], [5, HUGE, HUGE + 1], []):
            Teacher(rising(), turns, [])
            Teacher(rising(), [], tuple(turns))

    def test_in_both(self):
        self.refuse([0], [0])
        self.refuse([0, 3, 8], [1, 2, 8])
        self.refuse((5,), [1, 5, 9])
        Teacher(rising(), [0, 3, 8], [1, 2, 9])

    def test_many_turns(self):
        teacher = Teacher(never(), list(range(0, 60000, 2)), list(range(1, 60000, 2)))
        self.assertEqual([teacher.ask([]) for _ in range(60002)][-4:], ["yes", None, "no", "no"])


class Judging(unittest.TestCase):
    def test_true_or_the_first_difference(self):
        dice = Dice(72)
        found = {True: 0, False: 0}
        for _ in range(100):
            machine = small_machine(dice)
            other = changed_rule(dice, machine)
            told = Teacher(machine).judge(other)
            shown = first_difference(machine, other)
            found[told is True] += 1
            if shown is None:
                self.assertIs(told, True)
            else:
                self.assertEqual(told, shown)
                self.assertIs(type(told), list)
        self.assertGreater(min(found.values()), 20)
        self.assertEqual(Teacher(rising()).judge(never()), [("put", 0), ("put", 1)])
        # A difference at the empty input is an input too.
        other = Machine(["put"], ["no", "yes"], [("yes", 0)], [(0, "put", 0, 0, ())])
        self.assertEqual(Teacher(other).judge(never()), [])

    def test_judging_counts_no_question(self):
        teacher = Teacher(rising(), [0], [1])
        for _ in range(3):
            self.assertIs(teacher.judge(rising()), True)
            self.assertEqual(teacher.judge(never()), [("put", 0), ("put", 1)])
        self.assertEqual(teacher.asked(), 0)
        self.assertEqual(teacher.ask([]), "yes")

    def refuse(self, kind, machine, offer):
        teacher = Teacher(machine, [0])
        before = (writing(machine), writing(offer))
        with self.assertRaises(kind) as told:
            teacher.judge(offer)
        self.assertIs(type(told.exception), kind)
        self.assertEqual((teacher.asked(), writing(machine), writing(offer)), (0,) + before)
        self.assertEqual(teacher.ask([]), answer(never(machine.names, machine.answers[::-1]), []))

    def test_other_names_and_answers(self):
        names, answers = ("a", "b"), ("no", "yes")
        machine = never(names, answers)
        self.refuse(InvalidMachine, machine, never(("b", "a"), answers))
        self.refuse(InvalidMachine, machine, never(("a",), answers))
        self.refuse(InvalidMachine, machine, never(("a", "b", "c"), answers))
        self.refuse(InvalidMachine, machine, never(names, ("no", "so")))
        self.refuse(InvalidMachine, machine, never(names, ("no", "yes", "so")))
        other = Machine(names, ["yes", "no"], [("no", 0)], [(0, name, 0, 0, ()) for name in names])
        self.refuse(InvalidMachine, machine, other)

    def test_too_large(self):
        first, second = chain("a", [0, 1, 2, 3, 4, 4, 4]), chain("b", [0, 1, 2, 3, 4, 4, 4])
        self.refuse(TooLarge, first, second)
        self.refuse(TooLarge, second, first)
        # The names are looked at first.
        self.refuse(InvalidMachine, first, Machine(["b", "a"], second.answers, second.states, second.rules))


class Teaching(unittest.TestCase):
    def learner(self, lies=0, answers=("no", "yes")):
        memory = Memory(["put"], answers, lies)
        return Learner(memory), memory

    def test_until_it_is_done(self):
        learner, memory = self.learner()
        teacher = Teacher(rising())
        many = teacher.teach(learner, 2000)
        self.assertEqual(learner.pending(), ("done", rising()))
        # Each reply was an answer that was heard, or one of the two to an offer.
        self.assertEqual((many, teacher.asked()), (len(memory.kept()) + 2, len(memory.kept())))
        self.assertEqual((teacher.teach(learner, 2000), teacher.asked()), (0, len(memory.kept())))
        self.assertEqual(teacher.teach(learner, 0), 0)

    def test_so_many_replies(self):
        whole, _ = self.learner()
        total = Teacher(rising(), [5], [2]).teach(self.learner(1)[0], 2000)
        for step in (1, 2, 7, total - 1, total, total + 1):
            learner, _ = self.learner(1)
            teacher = Teacher(rising(), [5], [2])
            given = []
            while learner.pending()[0] != "done":
                given.append(teacher.teach(learner, step))
            self.assertEqual(given[:-1], [step] * (len(given) - 1))
            self.assertTrue(0 < given[-1] <= step)
            self.assertEqual((sum(given), learner.pending()), (total, ("done", rising())))

    def test_no_replies(self):
        learner, memory = self.learner()
        teacher = Teacher(rising())
        for most in (0, -1):
            self.assertEqual(teacher.teach(learner, most), 0)
        self.assertEqual((teacher.asked(), memory.kept(), learner.pending()), (0, [], ("ask", [])))

    def test_a_silent_turn_is_a_reply(self):
        learner, memory = self.learner()
        teacher = Teacher(rising(), [], [0, 1, 2])
        self.assertEqual((teacher.teach(learner, 3), teacher.asked()), (3, 3))
        self.assertEqual((memory.kept(), learner.pending()), ([], ("ask", [])))
        self.assertEqual(teacher.teach(learner, 1), 1)
        self.assertEqual(memory.kept(), [[]])

    def test_a_learner_that_has_offered(self):
        learner, memory = self.learner()
        teacher = Teacher(rising())
        self.assertEqual(teacher.teach(learner, 2), 2)
        self.assertEqual(learner.pending(), ("offer", never()))
        self.assertEqual((teacher.teach(learner, 1), teacher.asked(), learner.shown()), (1, 2, 1))
        self.assertEqual(learner.pending(), ("ask", [("put", 0), ("put", 1)]))

    def refuse(self, kind, teacher, learner, most=2000):
        with self.assertRaises(kind) as told:
            teacher.teach(learner, most)
        self.assertIs(type(told.exception), kind)

    def test_too_many_lies(self):
        machine = Machine(["put"], ["no", "yes", "so"], [("no", 0)], [(0, "put", 0, 0, ())])
        learner, memory = self.learner(1, machine.answers)
        memory.hear([], "so")
        teacher = Teacher(machine, [1])
        # Right is "no"; the second answer is "yes", and with it two of three would surely be wrong.
        self.refuse(TooManyLies, teacher, learner)
        self.assertEqual((memory.heard([]), memory.wrong()), ([1, 0, 1], 1))
        self.assertEqual(learner.pending(), ("ask", []))
        self.assertGreaterEqual(teacher.asked(), 1)

    def test_unknown_answers(self):
        learner, memory = self.learner(0, ("a", "b", "d"))
        teacher = Teacher(counter())
        # The answers to no, one and two messages are a, b and c, and the third is none of the memory's.
        for _ in range(2):
            self.refuse(UnknownAnswer, teacher, learner)
            self.assertEqual(memory.kept(), [[], [("put", 0)]])
            self.assertEqual(learner.pending(), ("ask", [("put", 0), ("put", 0)]))
            self.assertGreaterEqual(teacher.asked(), 2)

    def test_offers_that_cannot_be_judged(self):
        learner, memory = self.learner(0, ("no", "yes", "so"))
        teacher = Teacher(rising())
        self.refuse(InvalidMachine, teacher, learner)
        self.assertEqual((teacher.asked(), len(memory.kept()), learner.pending()[0]), (2, 2, "offer"))
        self.refuse(InvalidMachine, teacher, learner)
        self.assertEqual((teacher.asked(), learner.shown()), (2, 0))

    def test_differences_that_do_not_stand(self):
        learner, memory = self.learner()
        memory.hear([("put", 0), ("put", 1)], "no")
        teacher = Teacher(rising())
        self.refuse(NoDifference, teacher, learner)
        self.assertEqual((teacher.asked(), learner.pending(), learner.shown()), (2, ("offer", never()), 0))

    def test_too_large(self):
        # What the machines of two chains keep comes to lie in every way, but it never shows.
        machine = chain("a", [0, 1, 2, 3, 4, 4, 4])
        other = chain("b", [0, 1, 2, 3, 4, 4, 4])

        class Offering:
            """Asks twice and offers then."""

            def __init__(self):
                self.replies = []

            def pending(self):
                return ("ask", []) if len(self.replies) < 2 else ("offer", other)

            def reply(self, value):
                self.replies.append(value)

        learner = Offering()
        teacher = Teacher(machine, [1])
        self.refuse(TooLarge, teacher, learner)
        self.assertEqual((learner.replies, teacher.asked()), (["no", "yes"], 2))


if __name__ == "__main__":
    unittest.main()
