"""Points 15 to 19 by hand: what learners ask, offer and find."""

import copy
import unittest

from leastlearnt.errors import InvalidInput, NoDifference, NothingAsked, TooManyLies, UnknownAnswer
from leastlearnt.learners import Learner
from leastlearnt.machines import Machine, answer
from leastlearnt.memories import Memory
from leastlearnt.rows import needed, row
from tests.makers import rising

HUGE = 10 ** 40


def puts(digits):
    return [("put", int(digit)) for digit in digits]


def digits(messages):
    return "".join(str(value) for _, value in messages)


def never():
    return Machine(["put"], ["no", "yes"], [("no", 0)], [(0, "put", 0, 0, ())])


def repeats():
    """Answers yes after a first integer, and as long as it is not the integer before it."""
    rules = [(0, "put", 0, 1, (0,))]
    for state in (1, 2):
        rules += [(state, "put", 0, 1, (0,)), (state, "put", 1, 2, (0,)), (state, "put", 2, 1, (1,))]
    return Machine(["put"], ["no", "yes"], [("no", 0), ("yes", 1), ("no", 1)], rules)


def new_learner(lies=0, answers=("no", "yes")):
    memory = Memory(["put"], answers, lies)
    return Learner(memory), memory


def answer_all(learner, machine):
    """Answer rightly until the learner asks no more; return the questions."""
    questions = []
    while learner.pending()[0] == "ask":
        questions.append(learner.pending()[1])
        learner.reply(answer(machine, questions[-1]))
    return questions


def seen(learner):
    return (learner.access(), learner.endings(), learner.shown(), learner.pending())


class Beginning(unittest.TestCase):
    def test_a_new_learner(self):
        learner, _ = new_learner()
        self.assertEqual(seen(learner), ([[]], [[]], 0, ("ask", [])))
        self.assertIsNone(learner.reply("no"))
        # The only trial of the empty input is the input with one message.
        self.assertEqual(seen(learner), ([[]], [[]], 0, ("ask", [("put", 0)])))
        self.assertIsNone(learner.reply("no"))
        self.assertEqual(seen(learner), ([[]], [[]], 0, ("offer", never())))

    def test_each_name_has_trials_in_the_order_of_the_names(self):
        learner = Learner(Memory(["b", "c", "a"], ["no", "yes"], 0))
        asked = []
        while learner.pending()[0] == "ask":
            asked.append(learner.pending()[1])
            learner.reply("no")
        self.assertEqual(asked, [[], [("b", 0)], [("c", 0)], [("a", 0)]])

    def test_a_question_is_asked_until_an_answer_stands(self):
        learner, memory = new_learner(2)
        for word in ("yes", "no", "no"):
            learner.reply(word)
            self.assertEqual(learner.pending(), ("ask", []))
        learner.reply("no")
        # One answer was surely wrong, so two alike are needed now.
        self.assertEqual(learner.pending(), ("ask", puts("0")))
        learner.reply("no")
        self.assertEqual(learner.pending(), ("ask", puts("0")))
        learner.reply("no")
        self.assertEqual(learner.pending(), ("offer", never()))
        self.assertEqual((memory.heard([]), memory.wrong()), ([3, 1], 1))

    def test_a_learner_that_is_made_later(self):
        first, memory = new_learner()
        answer_all(first, rising())
        other = Learner(memory)
        self.assertEqual(seen(other), seen(first))
        first.reply(puts("01"))
        answer_all(first, rising())
        self.assertEqual(other.pending(), ("offer", never()))
        self.assertEqual(seen(Learner(memory)), ([[]], [[]], 0, ("offer", never())))
        # The first one gets its endings at once, for all that it would ask is known.
        third = Learner(memory)
        self.assertEqual(memory.standing(puts("01")), "yes")
        third.reply(puts("78"))
        self.assertEqual((third.endings(), third.shown()), (first.endings(), 1))
        self.assertEqual(third.pending(), ("offer", rising()))


class Rising(unittest.TestCase):
    def test_from_the_beginning_to_the_end(self):
        learner, memory = new_learner()
        answer_all(learner, rising())
        learner.reply(puts("01"))
        self.assertEqual(seen(learner), ([[]], [[]], 1, ("ask", puts("01"))))
        learner.reply("yes")
        # The mixed input of the middle is the last message alone, whose answer stands.
        self.assertEqual(learner.endings(), [[], puts("01"), puts("0")])
        # The row of the empty input is complete, so this is about the trial 0 and the ending 01.
        self.assertEqual(learner.pending(), ("ask", puts("012")))
        asked = [digits(messages) for messages in answer_all(learner, rising())]
        # Its row, then that of the access input 0, as far as they were not asked already.
        self.assertEqual(asked[:8], ["012", "001", "102", "101", "201", "00", "10", "1023"])
        self.assertEqual([digits(one) for one in learner.access()], ["", "0", "01"])
        self.assertEqual(learner.pending(), ("offer", rising()))
        self.assertIsNone(learner.reply(True))
        self.assertEqual(learner.pending(), ("done", rising()))
        self.assertEqual(learner.shown(), 1)
        self.assertEqual(row(memory, puts("01"), learner.endings()),
                         [["yes"], ["yes"] * 13, ["yes", "no", "no", "no", "no"]])
        # A trial of 01 below its needed integer has the integer that is there already.
        self.assertIn("01023", asked)
        self.assertIn("0100", asked)

    def test_an_ending_by_a_trial(self):
        rules = [(0, "put", 0, 1, (0,)), (1, "put", 0, 2, (1,)), (1, "put", 1, 1, (0,)), (1, "put", 2, 0, ()),
                 (2, "put", 0, 1, (1,)), (2, "put", 1, 1, (0,)), (2, "put", 2, 1, (1,))]
        machine = Machine(["put"], ["no", "yes"], [("yes", 0), ("no", 1), ("no", 1)], rules)
        learner, memory = new_learner()
        answer_all(learner, machine)
        # The guess forgets all, and takes a second integer for the first one again.
        learner.reply(puts("01"))
        while learner.pending() != ("ask", puts("2110")):
            learner.reply(answer(machine, learner.pending()[1]))
        self.assertEqual([digits(one) for one in learner.access()], ["", "0", "10"])
        self.assertEqual(learner.endings(), [[], puts("0")])
        learner.reply("no")
        # Of the access input 10 the 0 is needed, so that the trial 100 holds the 0. But of the trial the 1 is
        # needed: behind the placing (0, 0) comes yes, behind (0, 1) no. So the ending is 0 with a lower integer.
        self.assertEqual(row(memory, puts("100"), [puts("0")]), [["yes", "no", "no", "no", "no"]])
        self.assertEqual(needed(memory, puts("100"), learner.endings()[:2]), [1])
        self.assertEqual(learner.endings(), [[], puts("0"), puts("01")])
        # It begins again with the rows of the access inputs, the first of which is complete.
        self.assertEqual(learner.pending(), ("ask", puts("1023")))
        answer_all(learner, machine)
        self.assertEqual((learner.pending(), learner.shown()), (("offer", machine), 1))

class Shown(unittest.TestCase):
    def offered(self, lies=0):
        learner, memory = new_learner(lies)
        answer_all(learner, rising())
        self.assertEqual(learner.pending(), ("offer", never()))
        return learner, memory

    def test_halving_asks_for_mixed_inputs(self):
        learner, memory = self.offered()
        learner.reply(puts("2103"))
        self.assertEqual(learner.pending(), ("ask", puts("2103")))
        learner.reply("yes")
        # The middle is 2: the guess forgets the first two messages, and 0 3 are left.
        self.assertEqual((learner.endings(), learner.pending()), ([[]], ("ask", puts("01"))))
        learner.reply("yes")
        # The middle is 3, where the answer to the last message alone stands.
        self.assertEqual(learner.endings(), [[], puts("01"), puts("0")])
        self.assertEqual(learner.pending(), ("ask", puts("012")))

    def test_halving_to_the_left(self):
        learner, memory = self.offered()
        learner.reply(puts("0321"))
        learner.reply("yes")
        self.assertEqual(learner.pending(), ("ask", puts("10")))
        learner.reply("no")
        # Now the middle is 1, and what is left behind it is 3 2 1.
        self.assertEqual((learner.endings(), learner.pending()), ([[]], ("ask", puts("210"))))
        learner.reply("no")
        self.assertEqual(learner.endings(), [[], puts("0321"), puts("210")])

    def test_halving_goes_by_the_answers_that_stand(self):
        learner, memory = self.offered(1)
        learner.reply(puts("2103"))
        for word in ("yes", "no", "yes"):
            self.assertEqual((learner.pending(), learner.endings()), (("ask", puts("2103")), [[]]))
            learner.reply(word)
        self.assertEqual(learner.pending(), ("ask", puts("01")))
        memory.hear(puts("57"), "yes")
        self.assertEqual(learner.endings(), [[], puts("01"), puts("0")])

    def test_an_ending_that_is_one_already(self):
        learner, _ = new_learner()
        self.assertEqual([digits(one) for one in answer_all(learner, repeats())], ["", "0", "00"])
        # The guess takes all second messages for the first one again.
        self.assertEqual([answer(learner.pending()[1], puts(one)) for one in ("0", "00", "01")], ["yes", "no", "no"])
        learner.reply(puts("01"))
        self.assertEqual(learner.pending(), ("ask", puts("01")))
        learner.reply("yes")
        # The integer of the access input 0 is not needed and lies below: the mixed input is 01 again.
        self.assertEqual(learner.endings(), [[], puts("0")])
        answer_all(learner, repeats())
        self.assertEqual(learner.pending(), ("offer", repeats()))

    def test_the_answer_of_the_guess_comes_to_stand(self):
        learner, memory = self.offered(1)
        learner.reply(puts("110"))
        self.assertEqual((learner.shown(), learner.pending()), (1, ("ask", puts("110"))))
        learner.reply("yes")
        learner.reply("no")
        self.assertEqual(learner.pending(), ("ask", puts("110")))
        learner.reply("no")
        self.assertEqual(seen(learner), ([[]], [[]], 1, ("offer", never())))
        with self.assertRaises(NoDifference):
            learner.reply(puts("110"))
        learner.reply(puts("01"))
        self.assertEqual((learner.shown(), learner.pending()), (2, ("ask", puts("01"))))
        learner.reply("yes")
        self.assertEqual(learner.endings(), [[], puts("01"), puts("0")])

    def test_an_input_whose_other_answer_stands_already(self):
        learner, memory = self.offered()
        memory.hear(puts("01"), "yes")
        self.assertEqual(learner.pending(), ("offer", never()))
        learner.reply(puts("01"))
        self.assertEqual((learner.endings(), learner.pending()), ([[], puts("01"), puts("0")], ("ask", puts("012"))))

    def test_shown_inputs_are_copied_and_stand_for_their_dense_inputs(self):
        learner, _ = self.offered()
        messages = [["put", -HUGE], ["put", HUGE]]
        before = copy.deepcopy(messages)
        learner.reply(messages)
        self.assertEqual(messages, before)
        messages.reverse()
        messages[0][0] = "get"
        self.assertEqual(learner.pending(), ("ask", puts("01")))
        learner.reply("yes")
        self.assertEqual(learner.endings(), [[], puts("01"), puts("0")])
        other, _ = self.offered()
        other.reply((("put", 3), ("put", 4)))
        self.assertEqual(other.pending(), ("ask", puts("01")))


class Replies(unittest.TestCase):
    def refuse(self, kind, learner, memory, value):
        before = (seen(learner), memory.kept(), [memory.heard(one) for one in memory.kept()], memory.wrong())
        with self.assertRaises(kind) as told:
            learner.reply(value)
        self.assertIs(type(told.exception), kind)
        self.assertEqual((seen(learner), memory.kept(), [memory.heard(one) for one in memory.kept()],
                          memory.wrong()), before)

    def test_to_a_question(self):
        learner, memory = new_learner(1, ("no", "yes", "so"))
        for value in (True, False, 0, 1, "", "maybe", "No", [], ["no"], ("no",), [("put", 0)], puts("01")):
            self.refuse(UnknownAnswer, learner, memory, value)
        self.assertIsNone(learner.reply(None))
        self.assertEqual(seen(learner), ([[]], [[]], 0, ("ask", [])))
        self.assertEqual(memory.kept(), [])
        learner.reply("no")
        learner.reply("so")
        self.refuse(TooManyLies, learner, memory, "yes")
        self.refuse(UnknownAnswer, learner, memory, "maybe")
        self.assertIsNone(learner.reply(None))
        self.assertIsNone(learner.reply("so"))
        self.assertEqual((memory.heard([]), learner.pending()), ([1, 0, 2], ("ask", puts("0"))))

    def test_to_an_offer(self):
        learner, memory = new_learner()
        answer_all(learner, rising())
        for value in (None, False, 1, 0, 5, "no", "yes", "", "put", [("get", 0)], [("put", 0), ("get", 1)],
                      [("", 0)], [("put", None)], [("put", True)], [None], [("put",)], ["put"]):
            self.refuse(InvalidInput, learner, memory, value)
        for value in ([], (), puts("0"), [("put", HUGE)], [["put", -3]]):
            self.refuse(NoDifference, learner, memory, value)
        memory.hear(puts("10"), "no")
        self.refuse(NoDifference, learner, memory, puts("52"))
        self.assertEqual(learner.pending(), ("offer", never()))
        self.assertIsNone(learner.reply(True))
        for value in (True, None, "no", "maybe", [], puts("01"), [("get", 0)], False, 3):
            self.refuse(NothingAsked, learner, memory, value)

    def test_while_it_halves(self):
        learner, memory = new_learner(1)
        answer_all(learner, rising())
        learner.reply(puts("2103"))
        for value in (True, False, "maybe", puts("01"), []):
            self.refuse(UnknownAnswer, learner, memory, value)
        self.assertIsNone(learner.reply(None))
        self.assertEqual(learner.pending(), ("ask", puts("2103")))

    def test_an_offer_that_errs_may_be_accepted(self):
        learner, memory = new_learner()
        answer_all(learner, rising())
        learner.reply(True)
        self.assertEqual(learner.pending(), ("done", never()))
        memory.hear(puts("01"), "yes")
        self.assertEqual(learner.pending(), ("done", never()))


class Memories(unittest.TestCase):
    def test_the_very_memory_is_kept(self):
        learner, memory = new_learner()
        self.assertEqual(memory.hear([], "no"), "no")
        self.assertEqual(learner.pending(), ("ask", puts("0")))
        learner.reply("no")
        self.assertEqual(memory.kept(), [[], puts("0")])
        self.assertEqual(learner.pending(), ("offer", never()))

    def test_an_open_offer_stays(self):
        learner, memory = new_learner()
        answer_all(learner, rising())
        for messages in (puts("01"), puts("012"), puts("102")):
            memory.hear(messages, "yes")
            self.assertEqual(seen(learner), ([[]], [[]], 0, ("offer", never())))

    def test_two_learners(self):
        first, memory = new_learner()
        second = Learner(memory)
        first.reply("no")
        self.assertEqual(second.pending(), ("ask", puts("0")))
        second.reply("no")
        self.assertEqual((first.pending(), second.pending()), (("offer", never()), ("offer", never())))
        first.reply(puts("01"))
        second.reply(puts("2103"))
        self.assertEqual(second.pending(), ("ask", puts("2103")))
        first.reply("yes")
        second.reply("yes")
        self.assertEqual(first.endings(), second.endings())
        self.assertEqual((first.shown(), second.shown()), (1, 1))
        answer_all(first, rising())
        self.assertEqual((first.pending(), second.pending()), (("offer", rising()), ("offer", rising())))
        second.reply(True)
        self.assertEqual((first.pending()[0], second.pending()[0]), ("offer", "done"))

    def test_returned_values_are_new(self):
        learner, _ = new_learner()
        learner.reply("no")
        for call in (learner.access, learner.endings, lambda: learner.pending()[1]):
            told = copy.deepcopy(call())
            found = call()
            self.assertIs(type(found), list)
            found.append(("put", 9))
            found[0] = None
            self.assertEqual(call(), told)
        answer_all(learner, rising())
        learner.reply(puts("01"))
        answer_all(learner, rising())
        for call in (learner.access, learner.endings):
            told = copy.deepcopy(call())
            found = call()
            for one in found:
                self.assertIs(type(one), list)
                self.assertTrue(all(type(message) is tuple for message in one))
                one.append(None)
            self.assertEqual(call(), told)
        self.assertIs(type(learner.pending()), tuple)

    def test_what_was_returned_stays(self):
        learner, memory = new_learner()
        before = (learner.access(), learner.endings(), learner.pending())
        answer_all(learner, rising())
        offer = learner.pending()
        learner.reply(puts("01"))
        answer_all(learner, rising())
        self.assertEqual(before, ([[]], [[]], ("ask", [])))
        self.assertEqual(offer, ("offer", never()))


class Changes(unittest.TestCase):
    def taught(self):
        learner, memory = new_learner()
        answer_all(learner, rising())
        learner.reply(puts("01"))
        answer_all(learner, rising())
        return learner, memory

    def test_without_names(self):
        learner, memory = self.taught()
        ends = learner.endings()
        learner.reply(True)
        self.assertEqual(memory.change([]), 0)
        # All answers stand, so it goes on at once to the same offer, and it is no longer done.
        self.assertEqual([digits(one) for one in learner.access()], ["", "0", "01"])
        self.assertEqual((learner.endings(), learner.shown(), learner.pending()), (ends, 1, ("offer", rising())))

    def test_with_names(self):
        for said in (False, True):
            learner, memory = self.taught()
            ends, many = learner.endings(), len(memory.kept())
            if said:
                learner.reply(True)
            self.assertEqual(memory.change(["put"]), many - 1)
            self.assertEqual(seen(learner), ([[]], ends, 1, ("ask", puts("01"))))
            self.assertEqual(memory.kept(), [[]])
            while learner.pending()[0] == "ask":
                learner.reply("no")
            # A longer ending stays, and now no input has another answer.
            self.assertEqual(seen(learner), ([[]], ends, 1, ("offer", never())))

    def test_a_halving_is_forgotten(self):
        learner, memory = new_learner()
        answer_all(learner, rising())
        learner.reply(puts("2103"))
        learner.reply("yes")
        self.assertEqual(learner.pending(), ("ask", puts("01")))
        memory.change([])
        self.assertEqual(seen(learner), ([[]], [[]], 1, ("offer", never())))
        learner.reply(puts("2103"))
        self.assertEqual((learner.shown(), learner.pending()), (2, ("ask", puts("01"))))
        memory.change(["put"])
        self.assertEqual(seen(learner), ([[]], [[]], 2, ("ask", puts("0"))))

    def test_while_it_asks(self):
        learner, memory = new_learner()
        learner.reply("no")
        memory.change(["put"])
        self.assertEqual(learner.pending(), ("ask", puts("0")))
        learner.reply("yes")
        self.assertEqual(learner.pending(), ("ask", puts("00")))
        self.assertEqual(learner.access(), [[], puts("0")])
        memory.change(["put"])
        self.assertEqual(seen(learner), ([[]], [[]], 0, ("ask", puts("0"))))

    def test_all_learners_begin_again(self):
        first, memory = self.taught()
        second = Learner(memory)
        second.reply(True)
        memory.change(["put"])
        self.assertEqual((first.access(), first.pending()), ([[]], ("ask", puts("01"))))
        self.assertEqual(seen(second), ([[]], [[]], 0, ("ask", puts("0"))))


if __name__ == "__main__":
    unittest.main()
