"""Points 2, 4, 5 and 6: dense inputs, codes, the order of inputs, and placings."""

import copy
import unittest
from itertools import combinations_with_replacement, product

from leastlearnt.inputs import alike, code, compare, dense, joined, placings
from tests.makers import Dice
from tests.oracles import (dense_inputs, inputs_up_to, order_key, plain_code, plain_dense, plain_position,
                           values_of)

HUGE = 10 ** 40


def random_input(dice, most):
    values = [-HUGE, -3, -2, -1, 0, 1, 2, 7, HUGE, HUGE + 1]
    return [(dice.pick("abc"), dice.pick(values)) for _ in range(dice.below(most + 1))]


class DenseInputs(unittest.TestCase):
    def test_examples(self):
        self.assertEqual(dense([]), [])
        self.assertEqual(dense([("a", 5)]), [("a", 0)])
        self.assertEqual(dense([("a", 5), ("b", 5), ("a", 5)]), [("a", 0), ("b", 0), ("a", 0)])
        self.assertEqual(dense([("a", 7), ("b", -7), ("a", 0), ("b", 7)]), [("a", 2), ("b", 0), ("a", 1), ("b", 2)])
        self.assertEqual(dense([("a", HUGE), ("a", -HUGE), ("a", HUGE + 1)]), [("a", 1), ("a", 0), ("a", 2)])

    def test_against_the_definition(self):
        dice = Dice(1)
        for _ in range(300):
            messages = random_input(dice, 9)
            self.assertEqual(dense(messages), plain_dense(messages))
            self.assertEqual(dense(dense(messages)), dense(messages))

    def test_kinds(self):
        found = dense([("a", 3), ("b", 2)])
        self.assertIs(type(found), list)
        self.assertEqual([type(pair) for pair in found], [tuple, tuple])

    def test_alike(self):
        self.assertIs(alike([], []), True)
        self.assertIs(alike([("a", 1), ("a", 9)], [("a", -HUGE), ("a", HUGE)]), True)
        self.assertIs(alike([("a", 1), ("a", 9)], [("a", 9), ("a", 1)]), False)
        self.assertIs(alike([("a", 1), ("a", 1)], [("a", 1), ("a", 2)]), False)
        self.assertIs(alike([("a", 1)], [("b", 1)]), False)
        self.assertIs(alike([("a", 1)], [("a", 1), ("a", 1)]), False)
        self.assertIs(alike([], [("a", 1)]), False)

    def test_long_input(self):
        messages = [("a", (at * 7919) % 30011 - 15000) for at in range(30000)]
        order = {value: rank for rank, value in enumerate(values_of(messages))}
        self.assertEqual(dense(messages), [("a", order[value]) for _, value in messages])
        self.assertEqual(len(code(messages)), 30000)


class Codes(unittest.TestCase):
    def test_by_hand(self):
        self.assertEqual(code([]), [])
        messages = [("a", 50), ("b", 30), ("a", 70), ("b", 50), ("a", 40), ("a", 70), ("b", 10), ("b", 80)]
        told = [("a", 0), ("b", 0), ("a", 4), ("b", 3), ("a", 2), ("a", 7), ("b", 0), ("b", 10)]
        self.assertEqual(code(messages), told)

    def test_against_the_definition(self):
        dice = Dice(2)
        for _ in range(300):
            messages = random_input(dice, 9)
            self.assertEqual(code(messages), plain_code(messages))
            self.assertEqual(code(dense(messages)), code(messages))

    def test_kinds(self):
        found = code([("a", 3), ("b", 2)])
        self.assertIs(type(found), list)
        self.assertEqual([type(pair) for pair in found], [tuple, tuple])


class OrderOfInputs(unittest.TestCase):
    def both_ways(self, names, first, second, told):
        self.assertEqual(compare(names, first, second), told)
        self.assertEqual(compare(names, second, first), -told)

    def test_alike(self):
        self.both_ways(["a"], [], [], 0)
        self.both_ways(["a", "b"], [("a", 3), ("b", 9)], [("a", -1), ("b", HUGE)], 0)

    def test_shorter_ones_come_first(self):
        self.both_ways(["a"], [], [("a", 0)], -1)
        self.both_ways(["a", "b"], [("b", 5), ("b", 6)], [("a", 0), ("a", 0), ("a", 0)], -1)

    def test_names_in_the_order_of_names(self):
        self.both_ways(["a", "b"], [("a", 1)], [("b", 1)], -1)
        self.both_ways(["b", "a"], [("a", 1)], [("b", 1)], 1)
        self.both_ways(["c", "a", "b"], [("c", 1)], [("a", 1)], -1)
        # The name comes before the position.
        self.both_ways(["b", "a"], [("a", 1), ("b", 9)], [("a", 1), ("a", 0)], -1)

    def test_smaller_positions_come_first(self):
        self.both_ways(["a"], [("a", 5), ("a", 4)], [("a", 5), ("a", 5)], -1)
        self.both_ways(["a"], [("a", 5), ("a", 5)], [("a", 5), ("a", 6)], -1)
        # Positions are those among the messages before, so a late integer tells nothing about an early one.
        self.both_ways(["a"], [("a", 5), ("a", 6), ("a", 1)], [("a", 5), ("a", 6), ("a", 5)], -1)
        self.both_ways(["a"], [("a", 9), ("a", 8), ("a", 7)], [("a", 0), ("a", 0), ("a", 0)], -1)

    def test_late_differences(self):
        same = [("a", at % 5) for at in range(40)]
        self.both_ways(["b", "a"], same + [("b", 3)], same + [("a", 0)], -1)
        self.both_ways(["b", "a"], same + [("a", 3)], same + [("a", 4)], -1)

    def test_all_small_inputs(self):
        for names in (("a", "b"), ("b", "a")):
            keys = [(order_key(names, messages), messages) for messages in inputs_up_to(names, 3)]
            for (low, first), (high, second) in product(keys, keys):
                self.assertEqual(compare(names, first, second), (low > high) - (low < high))


class Placings(unittest.TestCase):
    def test_inputs_without_messages(self):
        self.assertEqual(placings([], []), [()])
        self.assertEqual(placings([], [("a", 4), ("a", 5)]), [()])
        self.assertEqual(placings([("a", 4), ("a", 5)], []), [(0, 0)])

    def test_example(self):
        told = [(0, 0), (0, 1), (0, 2), (1, 2), (2, 2)]
        self.assertEqual(placings([("a", 4), ("a", 5), ("b", 4)], [("c", 9), ("c", 9)]), told)

    def test_all_small_inputs(self):
        for many, more in product(range(5), range(4)):
            first = [("a", 10 - value) for value in range(many)] + [("b", 10)] * min(many, 1)
            ending = [("c", 3 * value) for value in range(more)]
            told = [row for row in combinations_with_replacement(range(2 * more + 1), many)
                    if not any(row.count(at) > 1 for at in row if at % 2)]
            self.assertEqual(placings(first, ending), sorted(told))
            self.assertEqual({type(row) for row in placings(first, ending)}, {tuple})


class JoinedInputs(unittest.TestCase):
    def test_example(self):
        first = [("a", 40), ("a", 60), ("a", 50)]
        ending = [("b", 8), ("b", 5)]
        self.assertEqual(joined(first, ending, (0, 0, 4)),
                         [("a", 0), ("a", 4), ("a", 1), ("b", 3), ("b", 2)])
        self.assertEqual(joined(first, ending, (1, 2, 3)),
                         [("a", 0), ("a", 2), ("a", 1), ("b", 2), ("b", 0)])

    def test_inputs_without_messages(self):
        self.assertEqual(joined([], [], ()), [])
        self.assertEqual(joined([("a", 9), ("a", 7)], [], (0, 0)), [("a", 1), ("a", 0)])
        self.assertEqual(joined([], [("b", 9), ("b", 7)], ()), [("b", 1), ("b", 0)])

    def check(self, first, ending, placing):
        found = joined(first, ending, placing)
        beginning, end = found[:len(first)], found[len(first):]
        self.assertIs(type(found), list)
        self.assertEqual(found, plain_dense(found))
        self.assertEqual(plain_dense(beginning), plain_dense(first))
        self.assertEqual(plain_dense(end), plain_dense(ending))
        positions = tuple(plain_position(values_of(end), value) for value in values_of(beginning))
        self.assertEqual(positions, tuple(placing))
        return found

    def test_every_placing_of_small_inputs(self):
        firsts = inputs_up_to(("a",), 3) + [[("a", -HUGE), ("b", 4), ("a", HUGE), ("b", 5)]]
        endings = inputs_up_to(("c",), 3) + [[("c", HUGE), ("a", -HUGE)]]
        for first, ending in product(firsts, endings):
            found = [self.check(first, ending, placing) for placing in placings(first, ending)]
            self.assertEqual(len({str(messages) for messages in found}), len(found))

    def test_each_dense_input_is_joined_from_its_parts(self):
        for messages in dense_inputs(("a",), 4):
            for cut in range(5):
                first, ending = messages[:cut], messages[cut:]
                found = [joined(first, ending, placing) for placing in placings(first, ending)]
                self.assertEqual(found.count(messages), 1)


class Arguments(unittest.TestCase):
    def test_lists_and_tuples(self):
        pairs = [("a", 7), ("b", 3), ("a", 7)]
        for messages in (tuple(pairs), [list(pair) for pair in pairs], tuple([list(pair) for pair in pairs])):
            self.assertEqual(dense(messages), dense(pairs))
            self.assertEqual(code(messages), code(pairs))
            self.assertIs(alike(messages, pairs), True)
            self.assertEqual(placings(messages, messages), placings(pairs, pairs))
            self.assertEqual(joined(messages, messages, [1, 2]), joined(pairs, pairs, (1, 2)))
            for names in (["b", "a"], ("b", "a")):
                self.assertEqual(compare(names, messages, pairs), 0)
                self.assertEqual(compare(names, messages, [("b", 0), ("b", 0), ("b", 0)]), 1)

    def test_arguments_stay_and_results_are_new(self):
        messages, ending, placing = [["a", 7], ["b", 3]], [["a", 9]], [0, 1]
        before = copy.deepcopy((messages, ending, placing))
        for call in (lambda: dense(messages), lambda: code(messages), lambda: placings(messages, ending),
                     lambda: joined(messages, ending, placing)):
            told = copy.deepcopy(call())
            found = call()
            found.reverse()
            found.append(None)
            self.assertEqual(call(), told)
        compare(["a", "b"], messages, ending + ending)
        self.assertEqual((messages, ending, placing), before)
        flat = dense([("a", 0), ("b", 1)])
        flat_again = dense(flat)
        flat_again.clear()
        self.assertEqual(flat, [("a", 0), ("b", 1)])


if __name__ == "__main__":
    unittest.main()
