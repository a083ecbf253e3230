"""Points 10 and 11: needed registers and least machines."""

import unittest

from leastlearnt.comparing import first_difference, least, needed_registers
from leastlearnt.errors import TooLarge
from leastlearnt.machines import Machine, canonical
from tests.makers import (Dice, fork, one_answer, padded, padded_shapes, random_keeps, random_machine, renumbered,
                          rising, small_machine, writing)
from tests.oracles import count_joint, count_shifted, inputs_up_to, plain_answer, plain_needed


def keeps_two():
    """Yes for an integer that equals the greatest one so far; the least one is kept for nothing."""
    states = [("no", 0), ("no", 1), ("no", 2), ("yes", 2)]
    rules = [(0, "a", 0, 1, (0,)), (1, "a", 0, 2, (0, 1)), (1, "a", 1, 1, (0,)), (1, "a", 2, 2, (0, 1))]
    for state in (2, 3):
        rules += [(state, "a", 0, 2, (0, 2)), (state, "a", 1, 2, (0, 1)), (state, "a", 2, 2, (0, 2)),
                  (state, "a", 3, 3, (0, 1)), (state, "a", 4, 2, (0, 2))]
    return Machine(["a"], ["no", "yes"], states, rules)


def large(seed):
    """A machine that always answers no, with rules by chance."""
    dice = Dice(seed)
    return one_answer(random_machine(dice, ("a", "b"), ("no", "yes"), random_keeps(dice, 12, 4)))


class NeededRegisters(unittest.TestCase):
    def test_by_hand(self):
        self.assertEqual([needed_registers(rising(), state) for state in range(3)], [[], [0], [0]])
        self.assertEqual([needed_registers(keeps_two(), state) for state in range(4)], [[], [0], [1], [1]])

    def test_where_all_answers_are_the_same(self):
        machine = one_answer(keeps_two())
        self.assertEqual([needed_registers(machine, state) for state in range(4)], [[], [], [], []])

    def test_states_that_are_not_reached(self):
        machine = keeps_two()
        states = machine.states + (("yes", 1),)
        rules = machine.rules + ((4, "a", 0, 0, ()), (4, "a", 1, 4, (0,)), (4, "a", 2, 0, ()))
        self.assertEqual(needed_registers(Machine(["a"], ["no", "yes"], states, rules), 4), [0])

    def test_a_register_that_is_needed_late(self):
        # The integer decides only after three more of the name b.
        states = [("no", 0)] + [("no", 1)] * 4 + [("yes", 0)]
        rules = [(0, "a", 0, 1, (0,)), (0, "b", 0, 0, ()), (5, "a", 0, 0, ()), (5, "b", 0, 0, ())]
        for state in (1, 2, 3, 4):
            for at in range(3):
                cut = (1,) if at == 0 else (0,)
                rules.append((state, "b", at, min(state + 1, 4), cut))
                rules.append((state, "a", at, 5 if state == 4 and at == 1 else 0, ()))
        machine = Machine(["a", "b"], ["no", "yes"], states, rules)
        self.assertEqual([needed_registers(machine, state) for state in range(6)], [[], [0], [0], [0], [0], []])

    def test_against_joint_configurations(self):
        dice = Dice(31)
        found = {}
        for _ in range(120):
            machine = small_machine(dice)
            before = writing(machine)
            for state in range(len(machine.states)):
                told = plain_needed(machine, state)
                self.assertEqual(needed_registers(machine, state), told)
                found[(machine.states[state][1], len(told))] = True
            self.assertEqual(writing(machine), before)
        self.assertTrue({(0, 0), (1, 0), (1, 1), (2, 0), (2, 1), (2, 2), (3, 0), (3, 3)} <= set(found))

    def test_padded_machines(self):
        dice = Dice(41)
        found = {}
        for _ in range(40):
            machine = small_machine(dice)
            shapes = padded_shapes(dice, machine, 6)
            more = padded(dice, machine, shapes)
            for state, (one, many, held) in enumerate(shapes):
                told = [held[index] for index in needed_registers(machine, one)]
                self.assertEqual(needed_registers(more, state), told)
                found[(many, len(told))] = True
        self.assertTrue({(2, 1), (3, 1), (3, 2), (4, 0), (4, 1), (4, 2), (4, 3)} <= set(found))

    def test_too_large(self):
        self.assertEqual(count_shifted(large(1130), 1, 0), (3000, False))
        self.assertNotIn(0, needed_registers(large(1130), 1))
        self.assertEqual(count_shifted(large(10536), 1, 0), (3002, False))
        with self.assertRaises(TooLarge):
            needed_registers(large(10536), 1)

    def test_new_lists(self):
        machine = keeps_two()
        needed_registers(machine, 2).clear()
        self.assertEqual(needed_registers(machine, 2), [1])


class LeastMachines(unittest.TestCase):
    def test_machines_that_are_least(self):
        self.assertEqual(least(rising()), rising())
        one = Machine(["a"], ["no", "yes"], [("yes", 0)], [(0, "a", 0, 0, ())])
        self.assertEqual(least(one), one)

    def test_by_hand(self):
        # State 1 of keeps_two is needed: it says no to an equal integer, state 2 says yes.
        rules = [(0, "a", 0, 1, (0,)), (1, "a", 0, 2, (1,)), (1, "a", 1, 1, (0,)), (1, "a", 2, 2, (1,))]
        for state in (2, 3):
            rules += [(state, "a", 0, 2, (1,)), (state, "a", 1, 3, (0,)), (state, "a", 2, 2, (1,))]
        told = Machine(["a"], ["no", "yes"], [("no", 0), ("no", 1), ("no", 1), ("yes", 1)], rules)
        self.assertEqual(least(keeps_two()), told)

    def test_states_the_same_in_effect(self):
        # The states 1 and 3 are the same in effect, and state 1 follows state 3 only.
        rules = [(0, "a", 0, 3, (0,)), (3, "a", 0, 1, (1,)), (3, "a", 1, 2, (0,)), (3, "a", 2, 3, (1,))]
        for state in (1, 2):
            rules += [(state, "a", 0, 1, (1,)), (state, "a", 1, 2, (0,)), (state, "a", 2, 1, (1,))]
        machine = Machine(["a"], ["no", "yes"], [("no", 0), ("no", 1), ("yes", 1), ("no", 1)], rules)
        told = [(0, "a", 0, 1, (0,))]
        for state in (1, 2):
            told += [(state, "a", 0, 1, (1,)), (state, "a", 1, 2, (0,)), (state, "a", 2, 1, (1,))]
        self.assertEqual(least(machine), Machine(["a"], ["no", "yes"], [("no", 0), ("no", 1), ("yes", 1)], told))

    def test_one_answer(self):
        for machine in (one_answer(rising()), one_answer(keeps_two())):
            name = machine.names[0]
            self.assertEqual(least(machine), Machine([name], ["no", "yes"], [("no", 0)], [(0, name, 0, 0, ())]))

    def test_names_and_answers_stay(self):
        machine = Machine(["b", "a"], ["so", "no", "yes"], [("no", 0)] * 3,
                          [(0, "a", 0, 1, ()), (0, "b", 0, 2, ()), (1, "a", 0, 1, ()), (1, "b", 0, 2, ()),
                           (2, "a", 0, 0, ()), (2, "b", 0, 0, ())])
        told = Machine(["b", "a"], ["so", "no", "yes"], [("no", 0)], [(0, "a", 0, 0, ()), (0, "b", 0, 0, ())])
        self.assertEqual(least(machine), told)

    def test_random_machines(self):
        dice = Dice(33)
        for _ in range(120):
            machine = small_machine(dice)
            before = writing(machine)
            found = least(machine)
            self.assertEqual(writing(machine), before)
            self.assertEqual(canonical(found), found)
            self.assertEqual(least(found), found)
            self.assertEqual(first_difference(found, machine), None)
            for messages in inputs_up_to(("a", "b"), 3):
                self.assertEqual(plain_answer(found, messages), plain_answer(machine, messages))
            self.check_least(found)

    def check_least(self, found):
        """All registers are needed, and no two states are the same in effect."""
        for state, (_, many) in enumerate(found.states):
            self.assertEqual(plain_needed(found, state), list(range(many)))
            for other in range(state):
                if found.states[other][1] == many:
                    kept = tuple(range(many))
                    self.assertTrue(count_joint(found, found, (state, kept), (other, kept))[1])

    def test_padded_machines_have_the_same_least_machine(self):
        dice = Dice(34)
        for at in range(60):
            machine = small_machine(dice, ("b", "a")[:1 + at % 2])
            more = padded(dice, machine, padded_shapes(dice, machine, 6 + dice.below(7)))
            numbers = [0] + dice.shuffle(range(1, len(more.states)))
            self.assertEqual(least(renumbered(more, numbers)), least(machine))

    def test_equal_if_and_only_if_all_answers_are(self):
        dice = Dice(35)
        found = {}
        for _ in range(150):
            machine = small_machine(dice, ("a",), most=2)
            other = small_machine(dice, ("a",), most=2)
            same = first_difference(machine, other) is None
            self.assertEqual(least(machine) == least(other), same)
            found[same] = True
        self.assertEqual(len(found), 2)

    def test_states_that_are_not_reached_do_not_count(self):
        # The chain of 3110 joint configurations cannot be reached here.
        machine = fork([1, 2, 3, 4, 4, 4], [1, 2, 3, 4, 4])
        rules = [rule for rule in machine.rules if rule[0]] + [(0, "a", 0, 0, ()), (0, "b", 0, 0, ())]
        told = Machine(["a", "b"], ["no", "yes"], [("no", 0)], [(0, "a", 0, 0, ()), (0, "b", 0, 0, ())])
        self.assertEqual(least(Machine(machine.names, machine.answers, machine.states, rules)), told)

    def test_too_large_for_a_register(self):
        machine = large(1)
        self.assertEqual(count_shifted(canonical(machine), 1, 0), (10122, False))
        with self.assertRaises(TooLarge):
            least(machine)

    def test_too_large_for_two_states(self):
        machine = fork([1, 2, 3, 4, 4, 4], [1, 2, 3, 4, 4])
        for state, (_, many) in enumerate(machine.states):
            self.assertEqual(needed_registers(machine, state), [])
        self.assertEqual(count_joint(machine, machine, (0, ()), (1, (0,))), (3110, False))
        with self.assertRaises(TooLarge):
            least(machine)
        smaller = fork([1, 2, 3, 4, 4], [1, 2, 3, 4])
        self.assertEqual(least(smaller).states, (("no", 0),))


if __name__ == "__main__":
    unittest.main()
