"""Rows: the answers that stand for an input joined with endings, and what they tell of its integers."""

from leastlearnt.errors import Incomplete
from leastlearnt.inputs import joined, placings


class Part:
    """The part of a row that belongs to one ending, as far as answers stand."""

    def __init__(self, messages, ending):
        self.messages = messages
        self.ending = ending
        self.spots = placings(messages, ending)
        self.told = []
        self._showings = None

    def take_answers(self, memory):
        """Take the answers that stand; return the first joined input for which none does, or None."""
        while len(self.told) < len(self.spots):
            question = joined(self.messages, self.ending, self.spots[len(self.told)])
            found = memory.standing(question)
            if found is None:
                return question
            self.told.append(found)
        return None

    def showings(self):
        """Return for each integer the first placing that shows that it is needed, or None."""
        if self._showings is None:
            self._showings = [first_showing(self.spots, self.told, rank) for rank in range(len(self.spots[0]))]
        return self._showings

    def by_needed(self, ranks):
        """Return the answers by the positions of the needed integers, in the order of these."""
        found = {}
        for at, spot in enumerate(self.spots):
            found[tuple([spot[rank] for rank in ranks])] = self.told[at]
        return [found[places] for places in sorted(found)]


class Row:
    """The row of an input, as far as answers stand.

    It may be kept while its memory hears more and endings are added, for an answer
    that stands goes on to stand; after a change a new one must be made.
    """

    def __init__(self, messages):
        self.messages = messages
        self.parts = []
        self._full = 0
        self._ranks = []
        self._summary = []

    def fill(self, memory, endings):
        """Take the answers that stand; return the first joined input for which none does, or None."""
        while self._full < len(endings):
            if self._full == len(self.parts):
                self.parts.append(Part(self.messages, endings[self._full]))
            question = self.parts[self._full].take_answers(memory)
            if question is not None:
                return question
            self._full += 1
            self.take_in(self.parts[-1])
        return None

    def take_in(self, part):
        """Learn from a part that has just become full which integers are needed."""
        ranks = [rank for rank, spot in enumerate(part.showings()) if spot is not None or rank in self._ranks]
        if ranks != self._ranks:
            self._ranks = ranks
            self._summary = []

    def ranks(self):
        """Return the ranks of the needed integers, if the row is complete."""
        return self._ranks

    def summary(self):
        """Return what is the same for two complete rows if and only if their inputs are equivalent.

        All placings that give the needed integers the same positions have one answer: from one
        of them to another, the integers that are not needed can be moved one by one. So the
        answers for all positions of the needed integers tell the whole row.
        """
        while len(self._summary) < len(self.parts):
            self._summary.append(self.parts[len(self._summary)].by_needed(self._ranks))
        return self._summary


def row(memory, messages, endings):
    """Return the row of an input: a list of answers for each ending."""
    return [part.told for part in complete_row(memory, messages, endings).parts]


def needed(memory, messages, endings):
    """Return the ranks of the needed integers of an input, ascending."""
    return complete_row(memory, messages, endings).ranks()


def alike_by(memory, first, second, endings):
    """Tell if two inputs are equivalent by the endings."""
    return equivalent(complete_row(memory, first, endings), complete_row(memory, second, endings))


def complete_row(memory, messages, endings):
    """Return the row of an input, or raise Incomplete."""
    found = Row(messages)
    if found.fill(memory, endings) is not None:
        raise Incomplete("an answer of the row does not stand")
    return found


def equivalent(first, second):
    """Tell if the inputs of two complete rows by the same endings are equivalent."""
    return len(first.ranks()) == len(second.ranks()) and first.summary() == second.summary()


def first_showing(spots, told, rank):
    """Return the first placing with another one that differs in one integer only and has another answer."""
    firsts = {}
    best = len(spots)
    for at, spot in enumerate(spots):
        others = spot[:rank] + spot[rank + 1:]
        if others not in firsts:
            firsts[others] = at
        elif told[at] != told[firsts[others]]:
            best = min(best, firsts[others])
    return spots[best] if best < len(spots) else None
