"""Points 2, 3, 12 and 13: memories."""

import copy
import unittest

from leastlearnt.errors import InvalidInput, InvalidMemory, TooManyLies, UnknownAnswer
from leastlearnt.memories import Memory
from tests.makers import Dice
from tests.oracles import plain_dense, plain_word
from tests.slow import SlowMemory

HUGE = 10 ** 40
BAD_INPUTS = [[("c", 0)], [("a", 0), ("", 1)], [("ab", 0)], [("A", 0)], [(None, 0)], [(True, 0)], [(0, 0)],
              [("b", 1), (("a",), 0)], [["a", 1], [["a"], 0]],
              [("a", None)], [("a", True)], [("a", False)], [("a", "0")], [("a", (0,))], [("a", 0), None],
              [("a",)], [("a", 0, 0)], [()], ["a0"], [5], None, True, False, 0, 7, "a", "", "a0"]
BAD_ANSWERS = ["maybe", "", "No", "yes ", None, True, False, 0, 1, -1, ["no"], ("no",), [], ("no", "yes")]
BAD_NAMES = [["c"], ["a", "c"], [""], [None], [True], [False], [0], [1], [["a"]], [("a", 0)], ["ab"], ["A"],
             None, True, False, 0, 1, "a", "ab", ""]


def whole(memory):
    """All that can be seen of a memory."""
    kept = memory.kept()
    return (memory.names, memory.answers, memory.lies, memory.wrong(), kept,
            [(memory.heard(one), memory.possible(one), memory.standing(one)) for one in kept])


def heard_often(memory, messages, told):
    """Hear each answer as often as told."""
    for word, many in told:
        for _ in range(many):
            memory.hear(messages, word)


class Making(unittest.TestCase):
    def refuse(self, names, answers, lies):
        with self.assertRaises(InvalidMemory) as told:
            Memory(names, answers, lies)
        self.assertIs(type(told.exception), InvalidMemory)

    def test_attributes(self):
        for names, answers in ((["b", "a"], ["no", "yes"]), (("b", "a"), ("no", "yes"))):
            memory = Memory(names, answers, 3)
            self.assertEqual((memory.names, memory.answers, memory.lies), (("b", "a"), ("no", "yes"), 3))
            self.assertEqual((type(memory.names), type(memory.answers), type(memory.lies)), (tuple, tuple, int))
            self.assertEqual(whole(memory), (("b", "a"), ("no", "yes"), 3, 0, [], []))

    def test_limits(self):
        Memory(["abcdefgh", "z", "y"], ["a", "b", "c", "hgfedcba"], 0)
        Memory(["a"], ["a", "b"], 3)
        for names in ([], ["a", "b", "c", "d"], ["a", "b", "a"], ["a", "a"]):
            self.refuse(names, ["no", "yes"], 0)
        for answers in ([], ["no"], ["a", "b", "c", "d", "e"], ["no", "yes", "no"], ["no", "no"]):
            self.refuse(["a"], answers, 0)
        for lies in (-1, 4, HUGE, -HUGE, None, True, False, "1", "", (1,), [0], ()):
            self.refuse(["a"], ["no", "yes"], lies)

    def test_words_and_other_parts(self):
        odd = [None, True, False, 0, 1, "", "A", "aB", "a b", "a1", "1", "-", " a", "a\n", "\u00e4", "\u0131",
               "abcdefghi", ("a",), ["a"], [], ()]
        for part in odd:
            self.assertFalse(plain_word(part))
            self.refuse([part], ["no", "yes"], 0)
            self.refuse(["a", part], ["no", "yes"], 0)
            self.refuse(["a"], [part, "yes"], 0)
            self.refuse(["a"], ["no", "yes", part], 0)
        for words in (None, True, False, 0, 2, "a", "ab", ""):
            self.refuse(words, ["no", "yes"], 0)
            self.refuse(["a"], words, 0)

    def test_lists_are_copied(self):
        names, answers = ["a", "b"], ["no", "yes"]
        memory = Memory(names, answers, 1)
        names.reverse()
        names.append("c")
        answers[0] = "so"
        self.assertEqual((memory.names, memory.answers), (("a", "b"), ("no", "yes")))
        self.assertEqual(memory.possible([]), ["no", "yes"])


class Hearing(unittest.TestCase):
    def test_without_lies(self):
        memory = Memory(["a"], ["no", "yes", "so"], 0)
        self.assertEqual((memory.standing([]), memory.possible([]), memory.heard([])),
                         (None, ["no", "yes", "so"], [0, 0, 0]))
        self.assertEqual(memory.hear([], "yes"), "yes")
        self.assertEqual((memory.standing([]), memory.possible([]), memory.heard([])), ("yes", ["yes"], [0, 1, 0]))
        self.assertIsNone(memory.standing([("a", 1)]))
        self.assertEqual(memory.hear([], "yes"), "yes")
        self.assertEqual(memory.heard([]), [0, 2, 0])
        with self.assertRaises(TooManyLies):
            memory.hear([], "no")
        self.assertEqual((memory.heard([]), memory.wrong()), ([0, 2, 0], 0))

    def test_one_more_than_the_lies_must_be_alike(self):
        for lies in range(4):
            memory = Memory(["a"], ["no", "yes"], lies)
            found = [memory.hear([("a", 5)], "no") for _ in range(lies + 1)]
            self.assertEqual(found, [None] * lies + ["no"])
            self.assertEqual(memory.possible([("a", 0)]), ["no"])

    def test_a_tie(self):
        memory = Memory(["a"], ["no", "yes", "so"], 2)
        heard_often(memory, [], [("so", 2), ("yes", 2)])
        self.assertEqual((memory.wrong(), memory.possible([]), memory.standing([])), (2, ["yes", "so"], None))
        with self.assertRaises(TooManyLies):
            memory.hear([], "no")
        self.assertEqual(memory.heard([]), [0, 2, 2])
        self.assertEqual(memory.hear([], "so"), "so")
        self.assertEqual((memory.wrong(), memory.possible([]), memory.heard([])), (2, ["so"], [0, 2, 3]))

    def test_stands_because_all_others_are_impossible(self):
        memory = Memory(["a"], ["no", "yes", "so"], 2)
        heard_often(memory, [], [("no", 2), ("yes", 1)])
        # With "so" three answers would be wrong, but with "yes" only two.
        self.assertEqual((memory.possible([]), memory.standing([])), (["no", "yes"], None))
        memory.hear([("a", 0)], "no")
        memory.hear([("a", 0)], "yes")
        # One more was surely wrong at the other input, so "yes" would be one wrong answer too many.
        self.assertEqual((memory.wrong(), memory.possible([]), memory.standing([])), (2, ["no"], "no"))

    def test_stands_at_one_input_by_what_is_wrong_at_others(self):
        memory = Memory(["a"], ["no", "yes"], 1)
        self.assertIsNone(memory.hear([("a", 3)], "yes"))
        self.assertIsNone(memory.hear([], "no"))
        self.assertEqual(memory.possible([("a", 3)]), ["no", "yes"])
        self.assertIsNone(memory.hear([], "yes"))
        self.assertEqual((memory.wrong(), memory.standing([]), memory.standing([("a", 0)])), (1, None, "yes"))
        self.assertEqual(memory.possible([]), ["no", "yes"])
        with self.assertRaises(TooManyLies):
            memory.hear([("a", 3)], "no")
        # What is not kept stays possible, whatever was wrong elsewhere.
        self.assertEqual(memory.possible([("a", 3), ("a", 3)]), ["no", "yes"])
        self.assertEqual(memory.hear([("a", 3), ("a", 3)], "no"), "no")
        self.assertEqual(memory.hear([], "yes"), "yes")

    def test_alike_inputs_are_one(self):
        memory = Memory(["a", "b"], ["no", "yes"], 3)
        memory.hear([("a", 7), ("b", -HUGE)], "no")
        memory.hear([("a", HUGE), ("b", HUGE - 1)], "no")
        memory.hear([("b", 7), ("a", -HUGE)], "yes")
        self.assertEqual(memory.kept(), [[("a", 1), ("b", 0)], [("b", 1), ("a", 0)]])
        self.assertEqual(memory.heard([("a", 1), ("b", 0)]), [2, 0])
        self.assertEqual(memory.heard([("a", 0), ("b", 1)]), [0, 0])

    def test_against_the_slow_memory(self):
        dice = Dice(41)
        refused = 0
        for at in range(120):
            names, answers = ("b", "a", "c")[:1 + dice.below(3)], ("no", "yes", "so", "on")[:2 + dice.below(3)]
            memory, slow = Memory(names, answers, at % 4), SlowMemory(names, answers, at % 4)
            for _ in range(30):
                refused += self.compare_step(dice, memory, slow)
        self.assertGreater(refused, 200)

    def compare_step(self, dice, memory, slow):
        """One answer or one change; 1 if it was refused."""
        if dice.below(12) == 0:
            names = dice.choose(memory.names, dice.below(len(memory.names) + 1))
            self.assertEqual(memory.change(list(names)), slow.change(names))
            self.compare(memory, slow)
            return 0
        messages = [(dice.pick(memory.names), dice.below(3) * HUGE) for _ in range(dice.below(3))]
        word = memory.answers[0] if dice.below(2) else dice.pick(memory.answers)
        told = slow.hear(messages, word)
        if told is False:
            with self.assertRaises(TooManyLies) as error:
                memory.hear(messages, word)
            self.assertIs(type(error.exception), TooManyLies)
        else:
            self.assertEqual(memory.hear(messages, word), told)
        self.compare(memory, slow, messages)
        return int(told is False)

    def compare(self, memory, slow, *more):
        self.assertEqual((memory.kept(), memory.wrong()), (slow.kept(), slow.wrong()))
        for messages in [*slow.kept(), *more, [(memory.names[-1], at) for at in range(5)]]:
            self.assertEqual(memory.heard(messages), slow.heard(messages))
            self.assertEqual(memory.possible(messages), slow.possible(messages))
            self.assertEqual(memory.standing(messages), slow.standing(messages))

    def test_what_stands_goes_on_to_stand(self):
        # A check of the words of points 12 and 13: the slow learner of other tests rests on it.
        dice = Dice(42)
        for at in range(60):
            slow = SlowMemory(("a", "b"), ("no", "yes", "so"), at % 4)
            stood = {}
            for _ in range(30):
                if dice.below(10) == 0:
                    slow.change(("a",))
                    stood = {key: told for key, told in stood.items() if "a" not in key}
                messages = [(dice.pick("ab"), 0) for _ in range(dice.below(3))]
                slow.hear(messages, dice.pick(slow.answers))
                for kept in slow.kept():
                    key = tuple(name for name, _ in kept)
                    if key in stood:
                        self.assertEqual(slow.standing(kept), stood[key])
                    elif slow.standing(kept):
                        stood[key] = slow.standing(kept)


class Changing(unittest.TestCase):
    def filled(self):
        memory = Memory(["a", "b", "c"], ["no", "yes"], 3)
        for words in ("c", "", "ab", "b", "a", "cb", "aab"):
            memory.hear([(name, at) for at, name in enumerate(words)], "no")
        return memory

    def words(self, memory):
        return ["".join(name for name, _ in messages) for messages in memory.kept()]

    def test_what_is_forgotten(self):
        told = {(): ["c", "", "ab", "b", "a", "cb", "aab"], ("a",): ["c", "", "b", "cb"], ("b",): ["c", "", "a"],
                ("c",): ["", "ab", "b", "a", "aab"], ("a", "b"): ["c", ""], ("c", "a"): ["", "b"],
                ("c", "b", "a"): [""], ("a", "a"): ["c", "", "b", "cb"]}
        for names, left in told.items():
            for passed in (names, list(names)):
                memory = self.filled()
                self.assertEqual(memory.change(passed), 7 - len(left))
                self.assertEqual(self.words(memory), left)
                self.assertEqual(memory.change(passed), 0)
                for messages in memory.kept():
                    self.assertEqual(memory.heard(messages), [1, 0])
        memory = self.filled()
        memory.change(["b"])
        self.assertEqual(memory.heard([("b", 0)]), [0, 0])
        self.assertEqual((memory.possible([("b", 0)]), memory.standing([("b", 0)])), (["no", "yes"], None))

    def test_order_of_what_is_kept(self):
        memory = self.filled()
        memory.hear([("b", 9)], "no")
        memory.hear([], "no")
        self.assertEqual(self.words(memory), ["c", "", "ab", "b", "a", "cb", "aab"])
        memory.change(["a"])
        memory.hear([("a", 3)], "yes")
        memory.hear([("c", 3)], "no")
        memory.hear([("a", 0), ("b", 1)], "no")
        memory.hear([("a", 0)], "yes")
        self.assertEqual(self.words(memory), ["c", "", "b", "cb", "a", "ab"])
        self.assertEqual(memory.heard([("a", 0)]), [0, 2])

    def test_what_was_wrong_counts_on(self):
        memory = Memory(["a", "b"], ["no", "yes"], 2)
        for word in ("no", "yes", "yes"):
            memory.hear([("a", 0)], word)
        memory.hear([("b", 0)], "no")
        self.assertEqual((memory.wrong(), memory.standing([("b", 0)])), (1, None))
        self.assertEqual(memory.change(["a"]), 1)
        self.assertEqual((memory.wrong(), memory.heard([("a", 0)]), memory.possible([("b", 0)])),
                         (1, [0, 0], ["no", "yes"]))
        self.assertEqual(memory.hear([("b", 0)], "no"), "no")
        # The forgotten input has another answer now, and one lie is left for it.
        self.assertIsNone(memory.hear([("a", 0)], "no"))
        self.assertIsNone(memory.hear([("a", 0)], "yes"))
        self.assertEqual((memory.wrong(), memory.heard([("a", 0)])), (2, [1, 1]))
        self.assertEqual(memory.hear([("a", 0)], "no"), "no")
        with self.assertRaises(TooManyLies):
            memory.hear([("a", 0)], "yes")
        self.assertEqual(memory.change(["a", "b"]), 2)
        self.assertEqual((memory.wrong(), memory.kept()), (2, []))
        self.assertEqual(memory.hear([("b", 0)], "yes"), "yes")

    def test_of_the_empty_input(self):
        memory = Memory(["a"], ["no", "yes"], 0)
        memory.hear([], "no")
        memory.hear([("a", 0)], "no")
        self.assertEqual(memory.change([]), 0)
        self.assertEqual(memory.change(["a"]), 1)
        self.assertEqual((memory.kept(), memory.standing([])), ([[]], "no"))


class WrongCalls(unittest.TestCase):
    def memory(self):
        memory = Memory(["a", "b"], ["no", "yes"], 1)
        memory.hear([("a", 3)], "no")
        memory.hear([("a", 3)], "yes")
        memory.hear([("b", 3), ("a", 2)], "no")
        return memory

    def refuse(self, kind, memory, call):
        before = copy.deepcopy(whole(memory))
        with self.assertRaises(kind) as told:
            call()
        self.assertIs(type(told.exception), kind)
        self.assertEqual(whole(memory), before)

    def test_inputs(self):
        memory = self.memory()
        for bad in BAD_INPUTS:
            for call in (memory.standing, memory.possible, memory.heard, lambda one: memory.hear(one, "no"),
                         lambda one: memory.hear(one, "maybe")):
                self.refuse(InvalidInput, memory, lambda: call(bad))

    def test_answers(self):
        memory = self.memory()
        for bad in BAD_ANSWERS:
            for messages in ([], [("a", 0)], [("b", HUGE), ("a", 0)]):
                self.refuse(UnknownAnswer, memory, lambda: memory.hear(messages, bad))

    def test_lies(self):
        memory = self.memory()
        self.refuse(TooManyLies, memory, lambda: memory.hear([("b", 3), ("a", 2)], "yes"))
        # The input comes before the answer, and the answer before the lies.
        self.refuse(InvalidInput, memory, lambda: memory.hear([("c", 3)], "maybe"))
        self.refuse(UnknownAnswer, memory, lambda: memory.hear([("b", 3), ("a", 2)], "maybe"))
        memory.hear([("a", 3)], "no")

    def test_names_of_a_change(self):
        memory = self.memory()
        for bad in BAD_NAMES:
            self.refuse(InvalidInput, memory, lambda: memory.change(bad))


class Arguments(unittest.TestCase):
    def test_lists_and_tuples(self):
        shapes = [[("a", 5), ("b", 4)], (("a", 5), ("b", 4)), [["a", 5], ["b", 4]], (["a", 5], ["b", 4])]
        for first in shapes:
            memory = Memory(["a", "b"], ["no", "yes"], 2)
            before = copy.deepcopy(first)
            self.assertIsNone(memory.hear(first, "no"))
            for other in shapes:
                self.assertEqual(memory.heard(other), [1, 0])
                self.assertEqual(memory.possible(other), ["no", "yes"])
                self.assertIsNone(memory.standing(other))
            memory.hear(first, "no")
            self.assertEqual(memory.hear(first, "no"), "no")
            self.assertEqual((memory.kept(), first), ([[("a", 1), ("b", 0)]], before))
            names = ["a"]
            self.assertEqual((memory.change(names), names), (1, ["a"]))

    def test_later_changes_of_a_passed_list(self):
        memory = Memory(["a"], ["no", "yes"], 0)
        messages = [["a", 5]]
        memory.hear(messages, "no")
        messages[0][1] = 6
        messages.append(["a", 7])
        self.assertEqual(memory.kept(), [[("a", 0)]])

    def test_returned_lists_are_new(self):
        memory = Memory(["a"], ["no", "yes"], 1)
        memory.hear([("a", 5)], "no")
        for messages in ([("a", 5)], []):
            for call in (memory.kept, lambda: memory.possible(messages), lambda: memory.heard(messages)):
                told = copy.deepcopy(call())
                self.assertIs(type(call()), list)
                found = call()
                found.append(None)
                found[0] = "x"
                self.assertEqual(call(), told)
        kept = memory.kept()
        kept[0].clear()
        self.assertEqual(memory.kept(), [[("a", 0)]])
        self.assertEqual([type(one) for one in memory.kept()[0]], [tuple])
        kept, heard = memory.kept(), memory.heard([("a", 5)])
        memory.hear([("a", 5)], "no")
        memory.hear([], "no")
        self.assertEqual((kept, heard), ([[("a", 0)]], [1, 0]))

    def test_integers_of_any_size(self):
        memory = Memory(["a"], ["no", "yes"], 0)
        memory.hear([("a", HUGE), ("a", -HUGE), ("a", HUGE + 1)], "no")
        self.assertEqual(memory.kept(), [[("a", 1), ("a", 0), ("a", 2)]])
        self.assertEqual(memory.kept(), [plain_dense([("a", 5), ("a", 1), ("a", 9)])])


if __name__ == "__main__":
    unittest.main()
