"""Points 2, 3, 7 and 8: machines that are right, how they run, and their canonical form."""

import copy
import unittest

from leastlearnt.machines import Machine, answer, canonical, run, start, step
from tests.makers import (Dice, one_answer, padded, padded_shapes, random_keeps, random_machine, renumbered, rising,
                          small_machine, writing)
from tests.oracles import follow, inputs_up_to, plain_answer, plain_reached, plain_valid, table_of

HUGE = 10 ** 40


def listed(value):
    """The value with lists in the place of tuples, at every depth."""
    return [listed(one) for one in value] if isinstance(value, (tuple, list)) else value


class RightMachines(unittest.TestCase):
    def test_attributes_are_tuples_at_every_depth(self):
        machine = rising()
        again = Machine(*[listed(part) for part in writing(machine)])
        self.assertEqual(again.names, ("put",))
        self.assertEqual(again.answers, ("no", "yes"))
        self.assertEqual(again.states, (("no", 0), ("no", 1), ("yes", 1)))
        self.assertEqual(again.rules, (
            (0, "put", 0, 1, (0,)), (1, "put", 0, 1, (0,)), (1, "put", 1, 1, (0,)), (1, "put", 2, 2, (1,)),
            (2, "put", 0, 1, (0,)), (2, "put", 1, 1, (0,)), (2, "put", 2, 2, (1,))))
        self.assertEqual(writing(again), writing(machine))

    def test_rules_in_any_order_are_sorted_by_the_order_of_the_names(self):
        names = ("b", "c", "a")
        machine = random_machine(Dice(1), names, ("no", "yes"), [0, 2, 1])
        told = sorted(machine.rules, key=lambda rule: (rule[0], names.index(rule[1]), rule[2]))
        self.assertEqual(machine.rules, tuple(told))
        self.assertEqual([rule[1] for rule in machine.rules[:3]], ["b", "c", "a"])
        for seed in range(5):
            again = Machine(names, ("no", "yes"), machine.states, Dice(seed).shuffle(machine.rules))
            self.assertEqual(again.rules, machine.rules)
            self.assertTrue(again == machine)

    def test_the_limits_themselves(self):
        names = ("abcdefgh", "z", "y")
        answers = ("zyxwvuts", "z", "y", "x")
        machine = random_machine(Dice(3), names, answers, [0, 4, 4, 4, 3, 2, 1, 0, 1, 2, 3, 4])
        self.assertEqual((len(machine.states), len(machine.rules)), (12, 3 * (4 * 9 + 2 * 7 + 2 * 5 + 2 * 3 + 2)))
        smallest = Machine(["a"], ["a", "b"], [("b", 0)], [(0, "a", 0, 0, ())])
        self.assertEqual(smallest.states, (("b", 0),))

    def test_random_machines_are_right(self):
        dice = Dice(4)
        for _ in range(60):
            keeps = random_keeps(dice, 1 + dice.below(12), 4)
            machine = random_machine(dice, ("a", "b"), ("no", "yes"), keeps)
            self.assertTrue(plain_valid(*writing(machine)))

    def test_lists_are_copied(self):
        parts = [listed(part) for part in writing(rising())]
        before = copy.deepcopy(parts)
        machine = Machine(*parts)
        self.assertEqual(parts, before)
        parts[0][0] = "get"
        parts[1].reverse()
        parts[2][1][1] = 0
        parts[3][1][4].clear()
        parts[3].clear()
        self.assertEqual(writing(machine), writing(rising()))

    def test_equality(self):
        parts = writing(rising())
        self.assertTrue(Machine(*parts) == rising())
        self.assertFalse(Machine(*parts) != rising())
        others = [
            Machine(["get"], parts[1], parts[2], [(s, "get", at, t, cut) for s, _, at, t, cut in parts[3]]),
            Machine(parts[0], ["yes", "no"], parts[2], parts[3]),
            Machine(parts[0], ["no", "yes", "so"], parts[2], parts[3]),
            Machine(parts[0], parts[1], [("yes", 0), ("no", 1), ("yes", 1)], parts[3]),
            Machine(parts[0], parts[1], parts[2], parts[3][:-1] + ((2, "put", 2, 2, (0,)),)),
            None, "rising", 5, parts]
        for other in others:
            self.assertFalse(rising() == other)
            self.assertTrue(rising() != other)

    def test_parts_of_machines_with_equal_rules_in_another_order_of_names(self):
        rules = [(0, name, 0, 0, ()) for name in "ab"]
        first = Machine(["a", "b"], ["no", "yes"], [("no", 0)], rules)
        second = Machine(["b", "a"], ["no", "yes"], [("no", 0)], rules)
        self.assertFalse(first == second)
        self.assertEqual(second.rules, ((0, "b", 0, 0, ()), (0, "a", 0, 0, ())))


class Running(unittest.TestCase):
    def test_start(self):
        self.assertEqual(start(rising()), (0, ()))
        self.assertEqual(run(rising(), []), (0, ()))
        self.assertEqual(answer(rising(), []), "no")

    def test_example(self):
        self.assertEqual(answer(rising(), [("put", 70), ("put", 90)]), "yes")
        self.assertEqual(answer(rising(), [("put", 70), ("put", 70)]), "no")
        self.assertEqual(answer(rising(), [("put", 90), ("put", 70)]), "no")
        self.assertEqual(run(rising(), [("put", 90), ("put", 70), ("put", HUGE)]), (2, (HUGE,)))

    def test_candidates_at_odd_and_even_positions(self):
        rules = [(0, "a", 0, 1, (0,)), (1, "a", 0, 2, (0, 1)), (1, "a", 1, 1, (0,)), (1, "a", 2, 2, (0, 1)),
                 (2, "a", 0, 2, (0, 2)), (2, "a", 1, 1, (1,)), (2, "a", 2, 2, (0, 1)), (2, "a", 3, 0, ()),
                 (2, "a", 4, 2, (1, 2))]
        machine = Machine(["a"], ["no", "yes"], [("no", 0), ("no", 1), ("yes", 2)], rules)
        here = (2, (10, 20))
        told = {5: (2, (5, 20)), 10: (1, (20,)), 15: (2, (10, 15)), 20: (0, ()), 25: (2, (20, 25))}
        for value, after in told.items():
            self.assertEqual(step(machine, here, ("a", value)), after)
        self.assertEqual(step(machine, (1, (-HUGE,)), ("a", -HUGE)), (1, (-HUGE,)))
        self.assertEqual(run(machine, [("a", 3), ("a", HUGE), ("a", -1)]), (2, (-1, HUGE)))

    def test_names_have_rules_of_their_own(self):
        rules = [(0, "up", 0, 1, ()), (0, "down", 0, 0, ()), (1, "up", 0, 1, ()), (1, "down", 0, 0, ())]
        machine = Machine(["up", "down"], ["no", "yes"], [("no", 0), ("yes", 0)], rules)
        self.assertEqual([answer(machine, [("up", 1), (name, 1)]) for name in ("up", "down")], ["yes", "no"])

    def test_against_the_rules(self):
        dice = Dice(5)
        for _ in range(60):
            machine = random_machine(dice, ("b", "a"), ("no", "yes"), random_keeps(dice, 1 + dice.below(12), 4))
            messages = [(dice.pick("ab"), dice.below(9) - 4) for _ in range(dice.below(20))]
            self.assertEqual(run(machine, messages), follow(table_of(machine), 0, (), messages))
            self.assertEqual(answer(machine, messages), plain_answer(machine, messages))
            here = start(machine)
            for message in messages:
                here = step(machine, here, message)
            self.assertEqual(here, run(machine, messages))

    def test_answers_depend_on_the_order_alone(self):
        dice = Dice(6)
        for _ in range(60):
            machine = small_machine(dice)
            messages = [(dice.pick("ab"), dice.below(6)) for _ in range(dice.below(9))]
            far = [(name, (value - 3) * HUGE - 1) for name, value in messages]
            self.assertEqual(answer(machine, far), answer(machine, messages))

    def test_lists_and_tuples(self):
        machine = rising()
        self.assertEqual(step(machine, [1, [5]], ["put", 6]), (2, (6,)))
        self.assertEqual(run(machine, (["put", 5], ["put", 6])), (2, (6,)))
        self.assertEqual(answer(machine, (["put", 5], ["put", 6])), "yes")
        here, messages = [1, [5]], [["put", 5], ["put", 6]]
        step(machine, here, messages[1])
        run(machine, messages)
        self.assertEqual((here, messages), ([1, [5]], [["put", 5], ["put", 6]]))
        self.assertEqual(writing(machine), writing(rising()))


class CanonicalForms(unittest.TestCase):
    def test_states_that_are_not_reached_go(self):
        states = [("no", 0), ("yes", 2), ("no", 0)]
        rules = [(0, "a", 0, 2, ()), (2, "a", 0, 0, ())] + [(1, "a", at, 1, (0, 1)) for at in range(5)]
        found = canonical(Machine(["a"], ["no", "yes"], states, rules))
        self.assertEqual(writing(found), (("a",), ("no", "yes"), (("no", 0), ("no", 0)),
                                          ((0, "a", 0, 1, ()), (1, "a", 0, 0, ()))))

    def test_answers_that_are_not_given_stay(self):
        found = canonical(Machine(["b", "a"], ["no", "so", "yes"], [("no", 0)], [(0, n, 0, 0, ()) for n in "ab"]))
        self.assertEqual((found.names, found.answers), (("b", "a"), ("no", "so", "yes")))

    def test_numbers_follow_the_first_inputs(self):
        # From state 0: the name z comes first, then position 0, 1, 2 in this order.
        states = [("no", 0), ("no", 0), ("yes", 0), ("no", 0), ("yes", 1), ("no", 0)]
        rules = [(0, "z", 0, 4, (0,)), (0, "a", 0, 1, ()), (4, "z", 0, 3, ()), (4, "z", 1, 5, ()), (4, "z", 2, 2, ())]
        rules += [(4, "a", at, 4, (0,)) for at in range(3)]
        rules += [(state, name, 0, state, ()) for state in (1, 2, 3, 5) for name in "az"]
        found = canonical(Machine(["z", "a"], ["no", "yes"], states, rules))
        numbers = [0, 2, 5, 3, 1, 4]
        self.assertEqual(found, renumbered(Machine(["z", "a"], ["no", "yes"], states, rules), numbers))

    def test_against_the_first_inputs(self):
        dice = Dice(7)
        for _ in range(150):
            machine = small_machine(dice)
            before = writing(machine)
            found = canonical(machine)
            self.assertEqual(writing(machine), before)
            reached = plain_reached(machine, 4)
            self.assertLessEqual(len(reached), len(found.states))
            for number, state in enumerate(reached):
                self.assertEqual(found.states[number], machine.states[state])
            told = [(reached.index(state), name, at, reached.index(target), sources)
                    for state, name, at, target, sources in machine.rules if state in reached and target in reached]
            self.assertTrue(set(told) <= set(found.rules))
            for messages in inputs_up_to(("a", "b"), 3):
                self.assertEqual(plain_answer(found, messages), plain_answer(machine, messages))

    def test_canonical_of_canonical_and_of_other_numbers(self):
        dice = Dice(8)
        for _ in range(60):
            machine = random_machine(dice, ("a", "b"), ("no", "yes"), random_keeps(dice, 1 + dice.below(12), 3))
            found = canonical(machine)
            self.assertEqual(canonical(found), found)
            numbers = [0] + dice.shuffle(range(1, len(machine.states)))
            self.assertEqual(canonical(renumbered(machine, numbers)), found)

    def test_states_the_same_in_effect_and_registers_stay(self):
        dice = Dice(9)
        machine = one_answer(random_machine(dice, ("a",), ("no", "yes"), [0, 1]))
        rules = [(0, "a", 0, 1, (0,)), (1, "a", 0, 0, ()), (1, "a", 1, 0, ()), (1, "a", 2, 1, (0,))]
        machine = Machine(machine.names, machine.answers, machine.states, rules)
        self.assertEqual(canonical(machine), machine)
        self.assertIsNot(canonical(machine), machine)

    def test_padded_machines_answer_alike(self):
        # A check of the makers: other tests rest on it.
        dice = Dice(10)
        for _ in range(20):
            machine = small_machine(dice)
            more = padded(dice, machine, padded_shapes(dice, machine, 8))
            for messages in inputs_up_to(("a", "b"), 3):
                self.assertEqual(plain_answer(more, messages), plain_answer(machine, messages))


if __name__ == "__main__":
    unittest.main()
