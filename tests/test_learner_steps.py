"""Points 15 to 19: learners against the slow learner, after every step."""

import unittest

from leastlearnt.comparing import first_difference, least
from leastlearnt.errors import InvalidInput, NoDifference, NothingAsked, TooManyLies, UnknownAnswer
from leastlearnt.learners import Learner
from leastlearnt.machines import Machine, answer, canonical
from leastlearnt.memories import Memory
from tests.makers import CHOSEN, Dice, changed_rule, chosen_machine, random_keeps, random_machine, some_difference
from tests.slow import SlowLearner

REFUSED = [[("zz", 0)], [("a", 0), ("", 1)], [(None, 0)], [(True, 0)], [("a", None)], [("a", True)], ["a0"],
           [("a",)], [("a", 0, 0)], [None], None, False, "a", "", 5, 0, 1, [[["a"], 0]]]
STRANGE = [True, False, "", "maybe", "No", 0, 1, ("no",), ["no"], [], [("a", 0)]]


class Crowd:
    """A hidden machine, a memory, and learners of it, each with a slow one; the steps that were taken are counted."""

    def __init__(self, test, dice, machine, lies):
        self.test, self.dice, self.machine = test, dice, machine
        self.memory = Memory(machine.names, machine.answers, lies)
        self.left = lies
        self.pairs = []
        self.seen = {}
        self.more()

    def count(self, word):
        self.seen[word] = self.seen.get(word, 0) + 1

    def more(self):
        """One more learner."""
        self.pairs.append((Learner(self.memory), SlowLearner(self.memory)))
        self.check()

    def check(self):
        for learner, slow in self.pairs:
            found = (learner.access(), learner.endings(), learner.shown(), learner.pending())
            self.test.assertEqual(found, slow.seen())
            if found[3][0] != "ask":
                self.test.assertEqual(canonical(found[3][1]), found[3][1])

    def slow_go_on(self):
        for _, slow in self.pairs:
            slow.go_on()
        self.check()

    def refuse(self, kind, call):
        before = self.everything()
        with self.test.assertRaises(kind) as told:
            call()
        self.test.assertIs(type(told.exception), kind)
        self.test.assertEqual(self.everything(), before)
        self.check()
        self.count(kind.__name__)

    def everything(self):
        kept = self.memory.kept()
        return (kept, [self.memory.heard(messages) for messages in kept], self.memory.wrong())

    def other_answer(self, right):
        return self.dice.pick([word for word in self.machine.answers if word != right])

    def choose_answer(self, messages):
        """Mostly the right answer, now and then a wrong one, as long as there are lies left."""
        right = answer(self.machine, messages)
        if self.left and self.dice.below(12) == 0:
            self.left -= 1
            self.count("lie")
            return self.other_answer(right)
        return right

    def random_input(self, most):
        return [(self.dice.pick(self.machine.names), self.dice.below(4) * 10 ** 20 - 7)
                for _ in range(self.dice.below(most + 1))]

    def hear_aside(self):
        """The memory hears something itself: the question of a learner, or what nobody asks."""
        asked = [what for kind, what in (learner.pending() for learner, _ in self.pairs) if kind == "ask"]
        messages = self.dice.pick(asked) if asked and self.dice.below(2) else self.random_input(3)
        self.refuse_lies(messages, lambda wrong: self.memory.hear(messages, wrong))
        self.memory.hear(messages, self.choose_answer(messages))
        self.slow_go_on()
        self.count("aside")

    def reply(self, pair):
        """One reply to a learner, of any kind that suits what it waits for."""
        kind, what = pair[0].pending()
        if kind == "ask":
            self.reply_to_question(pair, what)
        elif kind == "offer":
            self.reply_to_offer(pair, what)
        else:
            for value in (True, None, [], self.machine.answers[0], self.dice.pick(REFUSED)):
                self.refuse(NothingAsked, lambda: pair[0].reply(value))

    def reply_to_question(self, pair, what):
        learner, slow = pair
        self.count("halving" if slow.state == "halving" else "ask")
        chance = self.dice.below(20)
        if chance == 0:
            before = self.everything()
            self.test.assertIsNone(learner.reply(None))
            self.test.assertEqual(self.everything(), before)
            self.check()
            self.count("silent")
        elif chance == 1:
            self.refuse(UnknownAnswer, lambda: learner.reply(self.dice.pick(STRANGE)))
        else:
            self.refuse_lies(what, learner.reply)
            self.test.assertIsNone(learner.reply(self.choose_answer(what)))
            self.slow_go_on()

    def refuse_lies(self, messages, call):
        """Each answer by which more would surely be wrong than the lies is refused."""
        before = self.memory.heard(messages)
        for wrong in self.machine.answers:
            after = [many + (word == wrong) for word, many in zip(self.machine.answers, before)]
            more = sum(after) - max(after) - sum(before) + max(before)
            if self.memory.wrong() + more > self.memory.lies:
                self.refuse(TooManyLies, lambda: call(wrong))

    def reply_to_offer(self, pair, offer):
        learner, slow = pair
        self.refuse(InvalidInput, lambda: learner.reply(self.dice.pick(REFUSED)))
        known = [messages for messages in self.memory.kept()
                 if self.memory.standing(messages) == answer(offer, messages)]
        if known:
            self.refuse(NoDifference, lambda: learner.reply(self.dice.pick(known)))
        shown = first_difference(self.machine, offer)
        if self.dice.below(6) == 0:
            shown = self.dice.pick([self.random_input(5), True])
            if shown is not True and self.memory.standing(shown) == answer(offer, shown):
                return
        elif shown is not None and self.dice.below(2):
            shown = self.longer(offer, shown)
        if shown is None or shown is True:
            self.test.assertIsNone(learner.reply(True))
            slow.accept()
            self.count("right" if shown is None else "accepted")
        else:
            self.count("shown" if answer(self.machine, shown) != answer(offer, shown) else "no difference shown")
            self.test.assertIsNone(learner.reply(shown))
            slow.show(shown)
        self.check()

    def longer(self, offer, shown):
        """An input of some length on which the offer errs, if one is found."""
        for _ in range(20):
            more = self.random_input(3) + [(name, 10 ** 20 * value) for name, value in shown] + self.random_input(2)
            if answer(offer, more) != answer(self.machine, more):
                return more
        return shown

    def change(self, names):
        """The hidden machine changes at these names alone, and all is told."""
        rules = dict((rule[:3], rule) for rule in self.machine.rules)
        other = self.machine
        for _ in range(self.dice.below(3)):
            other = changed_rule(self.dice, other)
        for rule in other.rules:
            if rule[1] in names:
                rules[rule[:3]] = rule
        self.machine = Machine(other.names, other.answers, other.states, list(rules.values()))
        for _, slow in self.pairs:
            self.count("change while " + slow.state)
        self.memory.change(names)
        for _, slow in self.pairs:
            slow.begin()
        self.check()
        self.count(f"change at {len(names)}")

    def change_somewhere(self):
        self.change(self.dice.choose(self.machine.names, self.dice.below(len(self.machine.names) + 1)))

    def step(self):
        chance = self.dice.below(100)
        states = [slow.state for _, slow in self.pairs]
        rare = "halving" in states and chance in (8, 9, 10) or "offer" in states and chance == 8
        busy = [pair for pair in self.pairs if pair[0].pending()[0] != "done"]
        if chance < 6:
            self.hear_aside()
        elif chance == 6 and len(self.pairs) < 3:
            self.more()
        elif rare or chance == 7 and self.dice.below(2) or not busy and chance < 60:
            self.change_somewhere()
        else:
            self.reply(self.dice.pick(busy if busy and chance < 98 else self.pairs))


def drawn_machine(dice):
    """A machine by chance that is not too simple."""
    names = ("b", "a", "c")[:1 + dice.below(5) // 2]
    answers = ("no", "yes", "so", "on")[:2 + dice.below(3)]
    while True:
        machine = random_machine(dice, names, answers, random_keeps(dice, 2 + dice.below(3), 2))
        states = least(machine).states
        if len(states) + sum(many for _, many in states) >= 3:
            return machine


STRANGE_SEEDS = (10970, 11144, 2877, 3664, 8322, 2485, 5393, 5133, 5698, 8079, 7427, 1179, 4187, 775, 401, 10913, 3813,
                 878, 9427, 763)
STRANGE_PAIRS = (2923, 6720, 2945, 4005)
# What the steps must show at least so often.
OFTEN = {"ask": 9000, "halving": 400, "silent": 500, "lie": 80, "aside": 800, "shown": 150, "no difference shown": 10,
         "right": 200, "accepted": 40, "InvalidInput": 500, "NoDifference": 500, "UnknownAnswer": 500,
         "TooManyLies": 500, "NothingAsked": 500, "change at 0": 80, "change at 1": 80, "change at 2": 20,
         "change while search": 100, "change while offer": 20, "change while halving": 10, "change while done": 200,
         "ending by a trial": 10, "endings by halving: 1": 20, "endings by halving: 2": 50, "answer of the guess": 10}


class AgainstTheSlowLearner(unittest.TestCase):
    def run_crowds(self, crowds, steps):
        seen = {}
        for crowd in crowds:
            for _ in range(steps):
                crowd.step()
            for counts in [crowd.seen] + [slow.seldom for _, slow in crowd.pairs]:
                for word, many in counts.items():
                    seen[word] = seen.get(word, 0) + many
        return seen

    def compare(self, learner, slow):
        self.assertEqual((learner.access(), learner.endings(), learner.shown(), learner.pending()), slow.seen())

    def test_chosen_machines(self):
        for seed in CHOSEN:
            dice, machine = Dice(seed), chosen_machine(seed)
            memory = Memory(machine.names, machine.answers, 0)
            learner, slow = Learner(memory), SlowLearner(memory)
            while learner.pending()[0] != "done":
                self.compare(learner, slow)
                kind, what = learner.pending()
                if kind == "ask":
                    learner.reply(answer(machine, what))
                    slow.go_on()
                else:
                    shown = some_difference(dice, machine, what)
                    learner.reply(shown)
                    if shown is True:
                        slow.accept()
                    else:
                        slow.show(shown)
            self.compare(learner, slow)
            self.assertEqual(learner.pending(), ("done", least(machine)))

    def test_answers_of_no_machine(self):
        # What learners do then is left open, but they too can go through points 15 to 18 word by word,
        # and meet much that is seldom: so these are chosen.
        for names, seed in [("a", seed) for seed in STRANGE_SEEDS] + [("ab", seed) for seed in STRANGE_PAIRS]:
            dice = Dice(seed)
            memory = Memory(tuple(names), ("no", "yes"), 0)
            learner, slow = Learner(memory), SlowLearner(memory)
            rare = 2 + dice.below(100)
            for _ in range(260):
                if len(learner.access()) > 11:
                    break
                self.answer_strangely(dice, memory, learner, slow, rare)
                self.compare(learner, slow)

    def answer_strangely(self, dice, memory, learner, slow, rare):
        """Reply by chance, to offers by inputs whose answer does not stand or is another one."""
        kind, what = learner.pending()
        if kind == "ask":
            learner.reply("no" if dice.below(rare) else "yes")
            slow.go_on()
            return
        shown = [(dice.pick(memory.names), dice.below(4)) for _ in range(1 + dice.below(5))]
        if memory.standing(shown) is None:
            memory.hear(shown, "yes" if answer(what, shown) == "no" else "no")
            slow.go_on()
        if memory.standing(shown) != answer(what, shown):
            learner.reply(shown)
            slow.show(shown)

    def test_random_steps(self):
        machines = [(seed, drawn_machine(Dice(seed))) for seed in range(70)]
        machines += [(seed, chosen_machine(seed)) for seed in CHOSEN]
        crowds = [Crowd(self, Dice(1000 + seed), machine, seed % 4) for seed, machine in machines]
        seen = self.run_crowds(crowds, 250)
        for word, many in OFTEN.items():
            self.assertGreaterEqual(seen.get(word, 0), many, word)


if __name__ == "__main__":
    unittest.main()
