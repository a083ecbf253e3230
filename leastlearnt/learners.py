"""Learners: which inputs they ask for, which machines they offer, and what they do with the replies."""

from leastlearnt.errors import NoDifference, NothingAsked
from leastlearnt.halving import halve
from leastlearnt.inputs import dense
from leastlearnt.machines import answer, canonical
from leastlearnt.tables import Table


class Learner:
    """Learns the least machine behind the answers that a memory hears."""

    def __init__(self, memory):
        self._memory = memory
        self._table = Table(memory)
        self._many_shown = 0
        self.forget_offer()
        memory.attach(self)
        self.proceed()

    def pending(self):
        """Return what the learner waits for: an answer to an input, or what is said to an offer."""
        if self._offer is None:
            return ("ask", list(self._question))
        return ("done" if self._accepted else "offer", self._offer)

    def reply(self, value):
        """Take an answer or None, if the learner asks, or True or an input, if it has offered."""
        if self._accepted:
            raise NothingAsked("the learner is done")
        if self._offer is not None:
            self.take_verdict(value)
        elif value is not None:
            self._memory.hear(self._question, value)

    def access(self):
        """Return the access inputs."""
        return [list(messages) for messages in self._table.starts]

    def endings(self):
        """Return the endings."""
        return [list(messages) for messages in self._table.ends]

    def shown(self):
        """Return how many offers were answered by an input."""
        return self._many_shown

    def proceed(self):
        """Go on as far as answers stand, until a question must be asked or an offer is made."""
        if self._offer is not None:
            return
        if self._shown is not None:
            question, found = halve(self._table, self._guess, self._shown)
            self._question = question
            if question is not None:
                return
            for ending in found:
                self._table.add_ending(ending)
            self._shown = None
        self._question = self._table.next_question()
        if self._question is None:
            self._guess = self._table.guess()
            self._offer = canonical(self._guess)

    def begin_again(self):
        """Begin again after a change, with the endings that there are."""
        self._table.begin()
        self.forget_offer()
        self.proceed()

    def take_verdict(self, value):
        """Take what is said to the offer: that it is accepted, or an input on which it errs."""
        if value is True:
            self._accepted = True
            return
        found = self._memory.standing(value)
        if found is not None and found == answer(self._offer, value):
            raise NoDifference("the offer gives the answer that stands for the input")
        self._many_shown += 1
        self._shown = dense(value)
        self._offer = None
        self.proceed()

    def forget_offer(self):
        """Forget an offer, a shown input and an acceptance."""
        self._question = None
        self._guess = None
        self._offer = None
        self._accepted = False
        self._shown = None
