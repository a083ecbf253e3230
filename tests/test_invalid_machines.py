"""Points 2, 3 and 7: machines that are not as they must be."""

import unittest

from leastlearnt.errors import InvalidMachine
from leastlearnt.machines import Machine
from tests.makers import Dice, random_machine, rising
from tests.oracles import plain_valid

NAMES = ["b", "a"]
ANSWERS = ["no", "yes", "so"]
KEEPS = [0, 2, 1]
ODD = [None, True, False, "", "a", "no", "zz", "Ab", "abcdefghi", 0, 1, 2, 3, 5, -1, 12, 10 ** 30,
       [], (), [0], [0, 1], [1, 0], [0, 0], [True], [None], ["a"], ["a", "a"], ["no", True], ["no", "0"], [["a"]]]


def parts():
    machine = random_machine(Dice(11), NAMES, ANSWERS, KEEPS)
    return [NAMES, ANSWERS, machine.states, machine.rules]


def paths(value, path=()):
    """The way to each part, at every depth, the whole included."""
    found = [path]
    if isinstance(value, (list, tuple)):
        for index, one in enumerate(value):
            found += paths(one, path + (index,))
    return found


def put(value, path, part):
    """The value with another part at a path."""
    if not path:
        return part
    return [put(one, path[1:], part) if index == path[0] else one for index, one in enumerate(value)]


def without(value, path):
    """The value without the part at a path."""
    if len(path) == 1:
        return [one for index, one in enumerate(value) if index != path[0]]
    return [without(one, path[1:]) if index == path[0] else one for index, one in enumerate(value)]


def twice(value, path):
    """The value with the part at a path twice, one behind the other."""
    if len(path) == 1:
        return [*value[:path[0] + 1], *value[path[0]:]]
    return [twice(one, path[1:]) if index == path[0] else one for index, one in enumerate(value)]


class InvalidMachines(unittest.TestCase):
    def refuse(self, names, answers, states, rules):
        with self.assertRaises(InvalidMachine) as told:
            Machine(names, answers, states, rules)
        self.assertIs(type(told.exception), InvalidMachine)

    def refuse_simple(self, names=("a",), answers=("no", "yes"), states=(("no", 0),)):
        """A machine without kept integers, whose rules all lead to state 0."""
        self.refuse(names, answers, states, [(state, name, 0, 0, ()) for state in range(len(states)) for name in names])

    def check(self, given):
        if plain_valid(*given):
            Machine(*given)
            return 1
        self.refuse(*given)
        return 0

    def test_other_values_in_the_place_of_each_part(self):
        right = parts()
        self.assertTrue(plain_valid(*right))
        fine = 0
        for path in paths(right):
            if path:
                for part in ODD:
                    fine += self.check(put(right, path, part))
        # Some changes are fine, such as another target or another answer of a state.
        self.assertGreater(fine, 10)

    def test_parts_too_few_and_too_many(self):
        right = parts()
        for path in paths(right):
            if len(path) > 1:
                self.assertEqual(self.check(without(right, path)), path[:1] == (1,) and plain_valid(*without(right, path)))
                self.assertEqual(self.check(twice(right, path)), 0)

    def test_names(self):
        Machine(["a", "b", "c"], ["no", "yes"], [("no", 0)], [(0, name, 0, 0, ()) for name in "abc"])
        self.refuse_simple(names=[])
        self.refuse_simple(names=["a", "b", "c", "d"])
        self.refuse_simple(names=["a", "b", "a"])
        for word in ("", "abcdefghi", "A", "aB", "a b", "a1", "1", "-", " a", "a\n", "\u00e4", "\u0131", None, True, 3):
            self.refuse_simple(names=["b", word])
        self.refuse_simple(names="a")
        self.refuse_simple(names="ab")
        for names in (None, True, False, 5):
            self.refuse(names, ["no", "yes"], [("no", 0)], [(0, "a", 0, 0, ())])
        self.refuse([["a"]], ["no", "yes"], [("no", 0)], [(0, "a", 0, 0, ())])

    def test_answers(self):
        Machine(["a"], ["a", "b", "c", "d"], [("d", 0)], [(0, "a", 0, 0, ())])
        self.refuse_simple(answers=[])
        self.refuse_simple(answers=["no"])
        self.refuse_simple(answers=["no", "yes", "so", "a", "b"])
        self.refuse_simple(answers=["no", "yes", "no"])
        for word in ("", "abcdefghi", "Yes", "ye s", "yes1", "\u00e4", None, False, 7, ("yes",)):
            self.refuse_simple(answers=["no", word])
        for answers in ("no", None, True, 4):
            self.refuse_simple(answers=answers)
        self.refuse_simple(answers="ab", states=[("a", 0)])

    def test_states(self):
        Machine(["a"], ["no", "yes"], [("no", 0)] * 12, [(state, "a", 0, 0, ()) for state in range(12)])
        self.refuse_simple(states=[])
        self.refuse_simple(states=[("no", 0)] * 13)
        for state in (("so", 0), ("", 0), (None, 0), (True, 0), (0, 0), (("no",), 0), ("no", True), ("no", False),
                      ("no", None), ("no", "0"), ("no", -1), ("no", (0,)), ("no",), ("no", 0, 0), "no", None, 0, True):
            self.refuse_simple(states=[("no", 0), state])
            self.refuse_simple(states=[state])
        for states in (None, True, 1, "no"):
            self.refuse(["a"], ["no", "yes"], states, [(0, "a", 0, 0, ())])

    def test_state_0_keeps_none(self):
        self.refuse(["a"], ["no", "yes"], [("no", 1)], [(0, "a", at, 0, (0,)) for at in range(3)])

    def test_registers(self):
        for many, right in ((4, True), (5, False), (10 ** 30, False)):
            states = [("no", 0), ("no", many)]
            rules = [(0, "a", 0, 0, ())] + [(1, "a", at, 0, ()) for at in range(2 * min(many, 20) + 1)]
            self.assertEqual(plain_valid(["a"], ["no", "yes"], states, rules), right)
            self.check((["a"], ["no", "yes"], states, rules))

    def test_rules_missing_and_twice(self):
        names, answers, states, rules = parts()
        for at, rule in enumerate(rules):
            self.refuse(names, answers, states, rules[:at] + rules[at + 1:])
            self.refuse(names, answers, states, rules + (rule,))
            self.refuse(names, answers, states, rules[:at] + rules[at + 1:] + (rules[at - 1],))
        # One of two rules for the same state, name and position goes elsewhere.
        self.refuse(["a"], ["no", "yes"], [("no", 0), ("no", 0)],
                    [(0, "a", 0, 0, ()), (0, "a", 0, 1, ()), (1, "a", 0, 0, ())])
        self.refuse(names, answers, states, [])

    def refuse_rule(self, rule, instead):
        """A rule of the rising machine in the place of another one is refused."""
        machine = rising()
        rules = list(machine.rules)
        rules[rules.index(instead)] = rule
        self.refuse(machine.names, machine.answers, machine.states, rules)

    def test_wrong_parts_of_rules(self):
        right = (1, "put", 2, 2, (1,))
        for at, wrong in ((0, (3, -1, True, None, "a", (1,))), (1, ("get", "", None, 0, True, ("put",))),
                          (2, (3, 5, -1, True, None, "b")), (3, (3, -1, True, None, "c", (2,))),
                          (4, ((), (0, 1), (2,), (-1,), (True,), (False,), (None,), ("a",), None, 1, True, "a", "ab"))):
            for part in wrong:
                self.refuse_rule(right[:at] + (part,) + right[at + 1:], right)
        for rule in ((), right[:4], right + (0,), None, True, 1, "abcde", "a"):
            self.refuse_rule(rule, right)
        # At an odd position there is one candidate less.
        self.refuse_rule((1, "put", 1, 1, (1,)), (1, "put", 1, 1, (0,)))
        # The first rule has the position 0 alone, for state 0 keeps nothing.
        self.refuse_rule((0, "put", 1, 1, (0,)), (0, "put", 0, 1, (0,)))

    def test_sources_ascend(self):
        states = [("no", 0), ("no", 1), ("no", 2)]
        rules = [(0, "a", 0, 1, (0,)), (1, "a", 0, 2, (0, 1)), (1, "a", 1, 1, (0,)), (1, "a", 2, 2, (0, 1))]
        rules += [(2, "a", at, 2, (0, 1)) for at in range(5)]
        Machine(["a"], ["no", "yes"], states, rules)
        for sources in ((1, 0), (0, 0), (1, 1), (0,), (0, 1, 2), (0, 2), (-1, 0), (0, True), (False, 1)):
            rules[1] = (1, "a", 0, 2, sources)
            self.refuse(["a"], ["no", "yes"], states, rules)

    def test_rules_of_another_kind(self):
        machine = rising()
        for rules in (None, True, False, 7, "rules", ""):
            self.refuse(machine.names, machine.answers, machine.states, rules)


if __name__ == "__main__":
    unittest.main()
