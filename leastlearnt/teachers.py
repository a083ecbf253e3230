"""Teachers: they answer questions by a machine of their own, now and then wrongly or not at all."""

from leastlearnt.comparing import first_difference
from leastlearnt.errors import InvalidTurns
from leastlearnt.kinds import are_ascending
from leastlearnt.machines import answer


class Teacher:
    """A teacher that has a machine and is wrong or silent at some of the questions."""

    def __init__(self, machine, wrong=(), silent=()):
        if not are_turns(wrong) or not are_turns(silent):
            raise InvalidTurns("the numbers of questions must be integers from 0 on, strictly ascending")
        self._machine = machine
        self._wrong = {turn: True for turn in wrong}
        self._silent = {turn: True for turn in silent}
        if any([turn in self._silent for turn in wrong]):
            raise InvalidTurns("no question can have both a wrong answer and none")
        self._asked = 0

    def ask(self, messages):
        """Return the answer to an input, a wrong one or None, as the number of the question tells."""
        found = answer(self._machine, messages)
        turn = self._asked
        self._asked += 1
        if turn in self._silent:
            return None
        if turn in self._wrong:
            return next_answer(self._machine.answers, found)
        return found

    def judge(self, machine):
        """Return True if an offered machine gives the same answers, otherwise the first difference."""
        found = first_difference(self._machine, machine)
        return True if found is None else found

    def asked(self):
        """Return how many questions were asked."""
        return self._asked

    def teach(self, learner, most):
        """Reply to a learner until it is done or so many replies were given; return how many were."""
        given = 0
        while given < most:
            kind, what = learner.pending()
            if kind == "done":
                return given
            learner.reply(self.ask(what) if kind == "ask" else self.judge(what))
            given += 1
        return given


def are_turns(values):
    """Tell if values are strictly ascending integers from 0 on."""
    return are_ascending(values) and (len(values) == 0 or values[0] >= 0)


def next_answer(answers, word):
    """Return the answer after a word, in the order of the answers; after the last one the first."""
    return answers[(answers.index(word) + 1) % len(answers)]
