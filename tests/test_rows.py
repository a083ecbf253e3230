"""Points 2, 6 and 14: rows, needed integers and equivalent inputs."""

import copy
import unittest

from leastlearnt.errors import Incomplete
from leastlearnt.machines import Machine, answer
from leastlearnt.memories import Memory
from leastlearnt.rows import alike_by, needed, row
from tests.makers import Dice, random_keeps, random_machine, rising
from tests.oracles import inputs_up_to, plain_dense
from tests.slow import all_placings, frozen, plain_equivalent, plain_joined, plain_needs, plain_row

HUGE = 10 ** 40


def joined_inputs(messages, endings):
    """All joined inputs of a row, in order."""
    return [plain_joined(frozen(messages), frozen(ending), placing)
            for ending in endings for placing in all_placings(messages, ending)]


def taught(machine, inputs, endings, lies=0):
    """A memory that has heard the right answers to all joined inputs."""
    memory = Memory(machine.names, machine.answers, lies)
    for messages in inputs:
        for question in joined_inputs(messages, endings):
            while memory.standing(question) is None:
                memory.hear(question, answer(machine, question))
    return memory


def second_least():
    """Keeps the least two integers; yes if the last one lies strictly between those before it."""
    names, rules = ["a"], [(0, "a", 0, 1, (0,))]
    rules += [(1, "a", at, 2 - at % 2, (0, 1) if at != 1 else (0,)) for at in range(3)]
    for state in (2, 3):
        rules += [(state, "a", at, 3 if at == 2 else 2, (0, 1)) for at in range(5)]
    return Machine(names, ["no", "yes"], [("no", 0), ("no", 1), ("no", 2), ("yes", 2)], rules)


class ByHand(unittest.TestCase):
    def test_rising(self):
        endings = [[], [("put", 0)]]
        inputs = [[("put", 5)], [("put", 9), ("put", 7)], [("put", 7), ("put", 9)]]
        memory = taught(rising(), inputs + [[]], endings)
        self.assertEqual(row(memory, [], endings), [["no"], ["no"]])
        self.assertEqual(row(memory, [("put", 5)], endings), [["no"], ["yes", "no", "no"]])
        # Placings (0, 0), (0, 1), (0, 2), (1, 2), (2, 2): the last integer is the lower one.
        self.assertEqual(row(memory, inputs[1], endings), [["no"], ["yes", "yes", "yes", "no", "no"]])
        self.assertEqual(row(memory, inputs[2], endings), [["yes"], ["yes", "no", "no", "no", "no"]])
        self.assertEqual([needed(memory, one, endings) for one in inputs], [[0], [0], [1]])
        self.assertEqual([needed(memory, one, [[]]) for one in inputs], [[], [], []])
        self.assertIs(alike_by(memory, inputs[0], inputs[1], endings), True)
        self.assertIs(alike_by(memory, inputs[0], inputs[2], endings), False)
        self.assertIs(alike_by(memory, inputs[0], inputs[2], endings[1:]), True)
        self.assertIs(alike_by(memory, [], inputs[0], [[]]), True)
        self.assertIs(alike_by(memory, [], inputs[0], endings), False)

    def test_order_of_the_endings(self):
        endings = [[("put", 1), ("put", 0)], [("put", 0)], [], [("put", 0), ("put", 1)]]
        memory = taught(rising(), [[("put", 3)]], endings)
        told = [["no"] * 5, ["yes", "no", "no"], ["no"], ["yes"] * 5]
        self.assertEqual(row(memory, [("put", 3)], endings), told)
        self.assertEqual(row(memory, [("put", 3)], endings[::-1]), told[::-1])

    def test_without_endings(self):
        memory = Memory(["put"], ["no", "yes"], 0)
        for messages in ([], [("put", 3)], [("put", 3), ("put", 4), ("put", 3)]):
            self.assertEqual(row(memory, messages, []), [])
            self.assertEqual(needed(memory, messages, []), [])
            self.assertIs(alike_by(memory, messages, [("put", 1), ("put", 2)], []), True)

    def test_needed_in_one_ending_only(self):
        machine = second_least()
        two = [("a", 1), ("a", 0)]
        endings = [[], [("a", 0)], [("a", 1), ("a", 0)]]
        memory = taught(machine, [two, [("a", 0)]], endings)
        self.assertEqual(needed(memory, two, [[]]), [])
        self.assertEqual(needed(memory, two, endings), [0, 1])
        self.assertEqual(needed(memory, [("a", 0)], endings[:2]), [])
        self.assertEqual(needed(memory, [("a", 0)], endings), [0])

    def test_a_register_that_the_machine_keeps_in_vain_here(self):
        # The first name is kept and compared with the second name alone.
        rules = [(0, "a", 0, 1, (0,)), (0, "b", 0, 0, ())]
        rules += [(1, "a", at, 1, (0,)) for at in range(3)]
        rules += [(1, "b", 0, 0, ()), (1, "b", 1, 2, ()), (1, "b", 2, 0, ())]
        rules += [(2, name, 0, 0, ()) for name in "ab"]
        machine = Machine(["a", "b"], ["no", "yes"], [("no", 0), ("no", 1), ("yes", 0)], rules)
        endings = [[], [("a", 0)], [("b", 0)]]
        memory = taught(machine, [[("a", 4)]], endings)
        self.assertEqual([needed(memory, [("a", 4)], endings[:2]), needed(memory, [("a", 4)], endings)], [[], [0]])

    def test_equally_many_needed_and_other_answers(self):
        endings = [[("put", 0)]]
        up = taught(rising(), [[("put", 0)]], endings)
        first, second = [("put", 0)], [("put", 0), ("put", 0)]
        for placing, word in ((0, "no"), (1, "no"), (2, "yes")):
            up.hear(plain_joined(frozen(second), (("put", 0),), (placing,)), word)
        self.assertEqual((needed(up, first, endings), needed(up, second, endings)), ([0], [0]))
        self.assertIs(alike_by(up, first, second, endings), False)
        self.assertIs(alike_by(up, second, second, endings), True)


class AgainstTheSlowCount(unittest.TestCase):
    def compare(self, memory, inputs, endings):
        """How many pairs are equivalent, and how many are not."""
        rows = [plain_row(memory.standing, messages, endings) for messages in inputs]
        counts = [0, 0]
        for messages, told in zip(inputs, rows):
            self.assertEqual(row(memory, messages, endings), told)
            self.assertEqual(needed(memory, messages, endings), plain_needs(messages, endings, told))
            for other, beyond in zip(inputs, rows):
                found = plain_equivalent(messages, other, endings, told, beyond)
                self.assertIs(alike_by(memory, messages, other, endings), found)
                counts[found] += 1
        return counts

    def some_endings(self, dice, names):
        found = [list(one) for one in inputs_up_to(names, 2) if dice.below(5) == 0]
        return dice.shuffle(found)[:1 + dice.below(4)]

    def test_answers_of_machines(self):
        dice = Dice(51)
        counts, many = [0, 0], set()
        for _ in range(40):
            names = ("a", "b")[:1 + dice.below(2)]
            machine = random_machine(dice, names, ("no", "yes", "so"), random_keeps(dice, 2 + dice.below(3), 3))
            inputs = dice.shuffle(inputs_up_to(names, 3))[:6] + [[]]
            endings = self.some_endings(dice, names)
            memory = taught(machine, inputs, endings)
            found = self.compare(memory, inputs, endings)
            counts = [counts[0] + found[0], counts[1] + found[1]]
            many |= {len(needed(memory, messages, endings)) for messages in inputs}
        self.assertGreater(min(counts), 200)
        self.assertTrue({0, 1, 2} <= many)

    def test_answers_of_no_machine(self):
        # What integers that are not needed do is told by the rows alone.
        dice = Dice(52)
        for _ in range(40):
            inputs = dice.shuffle(inputs_up_to(("a",), 3))[:5]
            endings = self.some_endings(dice, ("a",))
            memory = Memory(["a"], ["no", "yes"], 0)
            rare = 1 + dice.below(12)
            for messages in inputs:
                for question in joined_inputs(messages, endings):
                    if memory.standing(question) is None:
                        memory.hear(question, "yes" if dice.below(rare) == 0 else "no")
            self.compare(memory, inputs, endings)


class IncompleteRows(unittest.TestCase):
    def refuse(self, call):
        with self.assertRaises(Incomplete) as told:
            call()
        self.assertIs(type(told.exception), Incomplete)

    def refuse_all(self, memory, messages, whole, endings):
        before = memory.kept()
        self.refuse(lambda: row(memory, messages, endings))
        self.refuse(lambda: needed(memory, messages, endings))
        for first, second in ((messages, whole), (whole, messages), (messages, messages)):
            self.refuse(lambda: alike_by(memory, first, second, endings))
        self.assertEqual(memory.kept(), before)

    def test_each_answer_must_stand(self):
        messages = [("put", 8), ("put", 5), ("put", 5)]
        endings = [[("put", 0)], [], [("put", 1), ("put", 0)]]
        questions = joined_inputs(messages, endings)
        self.assertEqual(len(questions), 5 + 1 + 13)
        for missing in questions:
            memory = taught(rising(), [[]], endings)
            for question in questions:
                if question != missing:
                    memory.hear(question, "no")
            self.refuse_all(memory, messages, [], endings)
            memory.hear(missing, "no")
            self.assertEqual(row(memory, messages, endings), [["no"] * 5, ["no"], ["no"] * 13])

    def test_heard_and_does_not_stand(self):
        memory = Memory(["put"], ["no", "yes"], 1)
        memory.hear([], "no")
        memory.hear([], "no")
        memory.hear([("put", 0)], "no")
        self.refuse_all(memory, [("put", 0)], [], [[]])
        memory.hear([("put", 7)], "no")
        self.assertEqual(row(memory, [("put", 0)], [[]]), [["no"]])

    def test_behind_a_change(self):
        machine = Machine(["a", "b"], ["no", "yes"], [("no", 0)], [(0, "a", 0, 0, ()), (0, "b", 0, 0, ())])
        messages, endings = [("a", 0)], [[], [("b", 0)]]
        memory = taught(machine, [messages, []], endings)
        self.assertEqual(row(memory, messages, endings), [["no"], ["no", "no", "no"]])
        memory.change([])
        self.assertEqual(row(memory, messages, endings), [["no"], ["no", "no", "no"]])
        memory.change(["b"])
        self.refuse_all(memory, messages, messages, endings)
        self.assertEqual(row(memory, messages, [[]]), [["no"]])
        self.assertEqual(needed(memory, messages, [[]]), [])
        memory.change(["a"])
        self.refuse_all(memory, messages, [], [[]])
        self.assertEqual(row(memory, [], [[]]), [["no"]])


class Arguments(unittest.TestCase):
    def test_lists_and_tuples(self):
        endings = [[], [("put", 0)]]
        memory = taught(rising(), [[("put", 5), ("put", 4)]], endings)
        for messages in ([("put", HUGE), ("put", -HUGE)], (["put", 1], ["put", 0]), [["put", 8], ["put", 2]]):
            for ends in (((), (("put", 0),)), [[], [["put", 0]]], ([], (["put", 0],))):
                before = copy.deepcopy((messages, ends))
                self.assertEqual(row(memory, messages, ends), [["no"], ["yes", "yes", "yes", "no", "no"]])
                self.assertEqual(needed(memory, messages, ends), [0])
                self.assertIs(alike_by(memory, messages, [("put", 5), ("put", 4)], ends), True)
                self.assertEqual((messages, ends), before)
                self.assertEqual(plain_dense(messages), [("put", 1), ("put", 0)])

    def test_returned_lists_are_new(self):
        endings = [[], [("put", 0)]]
        memory = taught(rising(), [[("put", 5)]], endings)
        found = row(memory, [("put", 5)], endings)
        self.assertEqual((type(found), [type(one) for one in found]), (list, [list, list]))
        found[1].clear()
        found.pop()
        ranks = needed(memory, [("put", 5)], endings)
        self.assertIs(type(ranks), list)
        ranks.append(9)
        self.assertEqual(row(memory, [("put", 5)], endings), [["no"], ["yes", "no", "no"]])
        self.assertEqual(needed(memory, [("put", 5)], endings), [0])


if __name__ == "__main__":
    unittest.main()
