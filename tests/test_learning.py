"""Point 20: what learners reach, and the example of the interface."""

import doctest
import unittest

from leastlearnt.comparing import first_difference, least
from leastlearnt.learners import Learner
from leastlearnt.machines import Machine, answer
from leastlearnt.memories import Memory
from leastlearnt.teachers import Teacher
from tests.makers import (CHOSEN, Dice, changed_rule, chosen_machine, padded, padded_shapes, random_keeps,
                          random_machine, rising, some_difference)
from tests.oracles import inputs_up_to, plain_first_difference

EXAMPLE = """
>>> from leastlearnt.learners import Learner
>>> from leastlearnt.machines import Machine, answer
>>> from leastlearnt.memories import Memory
>>> from leastlearnt.teachers import Teacher
>>> rules = [(0, "put", 0, 1, (0,))]
>>> for state in [1, 2]:
...     rules = rules + [(state, "put", 0, 1, (0,)), (state, "put", 1, 1, (0,)), (state, "put", 2, 2, (1,))]
>>> rising = Machine(["put"], ["no", "yes"], [("no", 0), ("no", 1), ("yes", 1)], rules)
>>> answer(rising, [("put", 70), ("put", 90)])
'yes'
>>> learner = Learner(Memory(["put"], ["no", "yes"], 1))
>>> learner.pending()
('ask', [])
>>> done = Teacher(rising, [3], [1]).teach(learner, 2000) < 2000
>>> [done, learner.pending() == ("done", rising), learner.shown() <= 4]
[True, True, True]
"""


class Example(unittest.TestCase):
    def test_example(self):
        test = doctest.DocTestParser().get_doctest(EXAMPLE, {}, "example", None, 0)
        told = doctest.DocTestRunner(verbose=False).run(test)
        self.assertEqual((told.failed, told.attempted > 8), (0, True))


def bound(machine):
    """P + R - 1 of the least machine."""
    states = least(machine).states
    return len(states) + sum(many for _, many in states) - 1


def drawn(dice, largest=6):
    """A machine by chance whose least machine is neither trivial nor large."""
    names, answers = ("b", "a", "c")[:1 + dice.below(3)], ("no", "yes", "so", "on")[:2 + dice.below(3)]
    while True:
        machine = random_machine(dice, names, answers, random_keeps(dice, 2 + dice.below(4), 2))
        if 2 <= bound(machine) <= largest:
            return machine


def turns(dice, many, top):
    """So many numbers of questions, and as many others."""
    found = dice.choose(range(top), 2 * many)
    return sorted(dice.choose(found, many)), found


class Reaching(unittest.TestCase):
    def check_done(self, learner, machine, before=0):
        self.assertEqual(learner.pending(), ("done", least(machine)))
        self.assertLessEqual(learner.shown() - before, bound(machine))

    def test_drawn_machines(self):
        dice = Dice(61)
        for at in range(60):
            machine = drawn(dice)
            memory = Memory(machine.names, machine.answers, at % 4)
            learner = Learner(memory)
            wrong, found = turns(dice, at % 4, 30)
            silent = [turn for turn in found if turn not in wrong]
            replies = Teacher(machine, wrong, silent).teach(learner, 10 ** 5)
            self.assertLess(replies, 10 ** 5)
            self.check_done(learner, machine)
            self.assertLessEqual(memory.wrong(), at % 4)

    def test_chosen_machines(self):
        for at, seed in enumerate(CHOSEN):
            machine = chosen_machine(seed)
            learner = Learner(Memory(machine.names, machine.answers, 1))
            Teacher(machine, [at]).teach(learner, 10 ** 5)
            self.check_done(learner, machine)

    def test_machines_with_more_registers(self):
        # It keeps the three least integers, and asks if one comes again: the second or the third one.
        for at, keeps in ((3, [0, 1, 2, 2]), (5, [0, 1, 2, 3])):
            rules = [(0, "a", 0, 1, (0,))]
            for state in (1, 2):
                rules += [(state, "a", place, state + 1 - place % 2, tuple(range(state + 1 - place % 2)))
                          for place in range(2 * state + 1)]
            rules += [(3, "a", place, 0 if place == at else 3, () if place == at else (0, 1, 2)) for place in range(7)]
            machine = Machine(["a"], ["no", "yes"], [("yes", 0), ("no", 1), ("no", 2), ("no", 3)], rules)
            self.assertEqual([many for _, many in least(machine).states], keeps)
            learner = Learner(Memory(["a"], ["no", "yes"], 0))
            Teacher(machine).teach(learner, 10 ** 5)
            self.check_done(learner, machine)

    def test_padded_machines(self):
        dice = Dice(62)
        for at in range(10):
            machine = drawn(dice, 4)
            more = padded(dice, machine, padded_shapes(dice, machine, 6 + dice.below(5)))
            learner = Learner(Memory(machine.names, machine.answers, at % 2))
            Teacher(more).teach(learner, 10 ** 5)
            self.check_done(learner, machine)

    def test_any_shown_inputs(self):
        dice = Dice(63)
        for _ in range(40):
            machine = drawn(dice, 5)
            learner = Learner(Memory(machine.names, machine.answers, 0))
            while learner.pending()[0] != "done":
                kind, what = learner.pending()
                if kind == "ask":
                    learner.reply(answer(machine, what))
                else:
                    learner.reply(some_difference(dice, machine, what))
            self.check_done(learner, machine)

    def test_two_learners_of_one_memory(self):
        dice = Dice(64)
        for at in range(25):
            machine = drawn(dice)
            memory = Memory(machine.names, machine.answers, 1 + at % 3)
            learners = [Learner(memory), Learner(memory)]
            wrong, _ = turns(dice, 1 + at % 3, 20)
            half = len(wrong) // 2
            teachers = [Teacher(machine, wrong[:half], [7]), Teacher(machine, wrong[half:], [0])]
            replies = 1
            while replies:
                replies = sum(teacher.teach(learner, 1 + dice.below(9))
                              for teacher, learner in zip(teachers, learners))
            for learner in learners:
                self.check_done(learner, machine)

    def changed(self, dice, machine, names):
        """A machine that answers inputs without these names as before, with other rules for these."""
        while True:
            other = changed_rule(dice, changed_rule(dice, machine))
            rules = {rule[:3]: rule for rule in machine.rules}
            rules.update({rule[:3]: rule for rule in other.rules if rule[1] in names})
            found = Machine(machine.names, machine.answers, machine.states, list(rules.values()))
            if bound(found) <= 6:
                return found

    def test_changes_on_the_way(self):
        dice = Dice(65)
        differ = 0
        for at in range(40):
            machine = drawn(dice, 5)
            memory = Memory(machine.names, machine.answers, at % 3)
            learners = [Learner(memory)]
            left = at % 3
            for _ in range(1 + dice.below(3)):
                lie = min(left, dice.below(2))
                left -= lie
                Teacher(machine, list(range(lie))).teach(learners[0], 1 + dice.below(400))
                names = dice.choose(machine.names, 1 + dice.below(len(machine.names)))
                other = self.changed(dice, machine, names)
                differ += first_difference(machine, other) is not None
                machine = other
                memory.change(names)
                learners.append(Learner(memory))
            before = [learner.shown() for learner in learners]
            teacher = Teacher(machine, list(range(3, 3 + left)))
            for learner, many in zip(learners, before):
                self.assertLess(teacher.teach(learner, 10 ** 5), 10 ** 5)
                self.check_done(learner, machine, many)
        self.assertGreater(differ, 20)

    def test_an_offer_judged_by_short_inputs(self):
        dice = Dice(66)
        for at in range(20):
            machine = drawn(dice)
            learner = Learner(Memory(machine.names, machine.answers, 0))
            length = at % 4
            kind, what = learner.pending()
            while kind == "ask" or plain_first_difference(machine, what, length) is not None:
                learner.reply(answer(machine, what) if kind == "ask"
                              else plain_first_difference(machine, what, length))
                kind, what = learner.pending()
            for messages in inputs_up_to(machine.names, length):
                self.assertEqual(answer(what, messages), answer(machine, messages))
            self.assertLessEqual(learner.shown(), bound(machine))

    def test_what_is_accepted_is_the_least_machine(self):
        learner = Learner(Memory(["put"], ["no", "yes"], 0))
        Teacher(rising()).teach(learner, 10 ** 5)
        self.assertEqual(learner.pending(), ("done", rising()))
        self.assertEqual(least(learner.pending()[1]), rising())


if __name__ == "__main__":
    unittest.main()
