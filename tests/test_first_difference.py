"""Point 9: the first difference of two machines."""

import unittest

from leastlearnt.comparing import first_difference
from leastlearnt.errors import InvalidMachine, TooLarge
from leastlearnt.machines import Machine, answer
from tests.makers import (Dice, chain, changed_rule, one_answer, padded, padded_shapes, random_machine, rising,
                          small_machine, writing)
from tests.oracles import count_joint, plain_dense, plain_first_difference


def flat(said, names=("a",), answers=("no", "yes")):
    """A machine with one state, or with two of which the second follows the first."""
    states = [(word, 0) for word in said]
    rules = [(state, name, 0, len(said) - 1, ()) for state in range(len(said)) for name in names]
    return Machine(names, answers, states, rules)


class FirstDifferences(unittest.TestCase):
    def both_ways(self, machine, other, told):
        before = writing(machine), writing(other)
        for found in (first_difference(machine, other), first_difference(other, machine)):
            self.assertEqual(found, told)
            if told is not None:
                self.assertIs(type(found), list)
                self.assertTrue(all(type(pair) is tuple for pair in found))
        self.assertEqual((writing(machine), writing(other)), before)

    def test_equal_machines(self):
        self.both_ways(rising(), rising(), None)

    def test_at_the_empty_input(self):
        self.both_ways(flat(["no"]), flat(["yes"]), [])

    def test_at_a_later_input(self):
        self.both_ways(flat(["no"]), flat(["no", "yes"]), [("a", 0)])
        self.both_ways(flat(["no"], ["put"]), rising(), [("put", 0), ("put", 1)])

    def test_names_in_their_order(self):
        for names in (("b", "a"), ("a", "b")):
            self.both_ways(flat(["no"], names), flat(["no", "yes"], names), [(names[0], 0)])

    def test_an_integer_that_only_one_machine_keeps(self):
        # Both say yes for an integer that equals the kept one: the last one, or the first one for ever.
        states = [("no", 0), ("no", 1), ("yes", 1)]
        begin = (0, "a", 0, 1, (0,))
        last = [(state, "a", at, 1 + at % 2, (at // 2,)) for state in (1, 2) for at in range(3)]
        first = [(state, "a", at, 1 + at % 2, (1 if at == 0 else 0,)) for state in (1, 2) for at in range(3)]
        self.both_ways(Machine(["a"], ["no", "yes"], states, [begin] + last),
                       Machine(["a"], ["no", "yes"], states, [begin] + first), [("a", 1), ("a", 0), ("a", 0)])

    def test_the_first_one_in_the_order_of_inputs(self):
        dice = Dice(21)
        found = {}
        for _ in range(250):
            machine = small_machine(dice)
            other = changed_rule(dice, machine) if dice.below(3) else small_machine(dice)
            told = plain_first_difference(machine, other, 4)
            shown = first_difference(machine, other)
            if told is None:
                self.assertTrue(shown is None or len(shown) > 4)
            else:
                self.both_ways(machine, other, told)
            if shown is not None:
                self.assertEqual(shown, plain_dense(shown))
                self.assertNotEqual(answer(machine, shown), answer(other, shown))
            found[-1 if told is None else len(told)] = True
        self.assertEqual(sorted(found), [-1, 0, 1, 2, 3, 4])

    def test_none_where_all_inputs_are_answered_alike(self):
        dice = Dice(22)
        for _ in range(30):
            machine = small_machine(dice)
            self.both_ways(machine, padded(dice, machine, padded_shapes(dice, machine, 8)), None)

    def test_long_first_differences(self):
        # Yes at the twelfth integer, each being less than the one before it.
        rules = [(state, "a", at, min(state + 1, 11) if at == 0 else 0, (0,) if at == 0 else ())
                 for state in range(12) for at in range(1 if state == 0 else 3)]
        states = [("no", 0)] + [("no", 1)] * 10 + [("yes", 1)]
        falling = Machine(["a"], ["no", "yes"], states, rules)
        told = [("a", value) for value in range(10, -1, -1)]
        self.both_ways(falling, one_answer(falling), told)
        # The same for ascending integers; their positions are the least that are above what is kept.
        turned = Machine(["a"], ["no", "yes"], states, [
            (state, "a", 0 if state == 0 else 2 - at, target, ((0,) if state == 0 else (1,)) if sources else ())
            for state, _, at, target, sources in rules])
        self.both_ways(turned, one_answer(turned), [("a", value) for value in range(11)])

    def test_returned_lists_are_new(self):
        first_difference(flat(["no"]), flat(["no", "yes"])).clear()
        self.both_ways(flat(["no"]), flat(["no", "yes"]), [("a", 0)])


class OtherNamesOrAnswers(unittest.TestCase):
    def refuse(self, machine, other):
        for one, two in ((machine, other), (other, machine)):
            with self.assertRaises(InvalidMachine):
                first_difference(one, two)

    def test_names(self):
        self.refuse(flat(["no"], ["a"]), flat(["no"], ["b"]))
        self.refuse(flat(["no"], ["a"]), flat(["no"], ["a", "b"]))
        self.refuse(flat(["no"], ["a", "b"]), flat(["no"], ["b", "a"]))

    def test_answers(self):
        self.refuse(flat(["no"]), flat(["no"], answers=["no", "so"]))
        self.refuse(flat(["no"]), flat(["no"], answers=["no", "yes", "so"]))
        self.refuse(flat(["no"]), flat(["no"], answers=["yes", "no"]))


class TooLargeComparisons(unittest.TestCase):
    def check(self, machine, other, count, told):
        self.assertEqual(count_joint(machine, other, (0, ()), (0, ())), count)
        for one, two in ((machine, other), (other, machine)):
            if count[0] > 3000:
                with self.assertRaises(TooLarge):
                    first_difference(one, two)
            else:
                self.assertEqual(first_difference(one, two), told)

    def test_without_a_difference(self):
        self.check(chain("a", [0, 1, 2, 3, 4, 4, 4]), chain("b", [0, 0, 0, 1, 2, 3, 4, 4]), (3000, False), None)
        # One more joint configuration: both start in a state that they never come back to.
        self.check(chain("a", [0, 0, 1, 2, 3, 4, 4, 4], lead=True),
                   chain("b", [0, 0, 0, 0, 1, 2, 3, 4, 4], lead=True), (3001, False), None)

    def test_with_a_difference_at_the_last_one(self):
        told = [("a", value) for value in range(10, -1, -1)]
        self.check(chain("b", [0, 1, 2, 3, 4, 4, 4, 4, 3]), chain("a", [0, 1, 2, 3, 4, 3, 4, 2, 3, 4, 4, 4], "yes"),
                   (3000, True), told)
        self.check(chain("b", [0, 1, 2, 3, 4, 3, 4, 3]), chain("a", [0, 1, 2, 3, 4, 4, 4, 4, 2, 2, 3, 0], "yes"),
                   (3001, True), None)
        told = [("b", value) for value in range(9, -1, -1)]
        self.check(chain("a", [0, 1, 2, 3, 4, 4, 4, 4, 4, 4, 4]), chain("b", [0, 1, 2, 3, 4, 3, 4, 2, 1, 2, 0], "yes"),
                   (3000, True), told)
        self.check(chain("a", [0, 1, 1, 2, 3, 4, 3, 4, 2, 3]), chain("b", [0, 1, 2, 3, 4, 4, 4, 3, 4, 2, 3, 0], "yes"),
                   (3001, True), None)

    def test_many_more_with_an_early_difference(self):
        dice = Dice(23)
        machine = random_machine(dice, ("a", "b"), ("no", "yes"), [0, 1, 2, 3] + [4] * 8)
        other = one_answer(random_machine(dice, ("a", "b"), ("no", "yes"), [0, 1, 2, 3] + [4] * 8))
        self.assertLess(count_joint(machine, other, (0, ()), (0, ()))[0], 100)
        self.assertNotEqual(first_difference(machine, other), None)


if __name__ == "__main__":
    unittest.main()
