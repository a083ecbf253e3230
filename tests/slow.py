"""Memories, rows and learners that do word by word what points 12 to 19 tell."""

from fractions import Fraction
from functools import lru_cache
from itertools import combinations_with_replacement

from leastlearnt.machines import Machine, canonical
from tests.oracles import follow, plain_dense, plain_position, spots, table_of, values_of


def frozen(messages):
    return tuple(tuple(message) for message in messages)


class SlowMemory:
    """Counts by the words of points 12 and 13, over a list of all that was heard."""

    def __init__(self, names, answers, lies):
        self.names, self.answers, self.lies = names, answers, lies
        self.log = []
        self.lost = 0

    def heard(self, messages):
        return [self.log.count((plain_dense(messages), word)) for word in self.answers]

    def surely_wrong(self, messages):
        return sum(self.heard(messages)) - max(self.heard(messages))

    def kept(self):
        found = []
        for messages, _ in self.log:
            if messages not in found:
                found.append(messages)
        return found

    def wrong(self):
        return sum(self.surely_wrong(messages) for messages in self.kept()) + self.lost

    def possible(self, messages):
        told, here = self.heard(messages), plain_dense(messages)
        if here not in self.kept():
            return list(self.answers)
        elsewhere = sum(self.surely_wrong(other) for other in self.kept() if other != here) + self.lost
        return [word for word, many in zip(self.answers, told) if sum(told) - many + elsewhere <= self.lies]

    def standing(self, messages):
        possible = self.possible(messages)
        return possible[0] if len(possible) == 1 else None

    def hear(self, messages, answer):
        """The answer that stands, or False if there were too many lies."""
        self.log.append((plain_dense(messages), answer))
        if self.wrong() > self.lies:
            self.log.pop()
            return False
        return self.standing(messages)

    def change(self, names):
        gone = [messages for messages in self.kept() if any(name in names for name, _ in messages)]
        self.lost += sum(self.surely_wrong(messages) for messages in gone)
        self.log = [(messages, word) for messages, word in self.log if messages not in gone]
        return len(gone)


@lru_cache(maxsize=None)
def plain_placings(many, more):
    """All placings of so many integers among so many others, in order."""
    return sorted(row for row in combinations_with_replacement(range(2 * more + 1), many)
                  if not any(row.count(at) > 1 for at in row if at % 2))


@lru_cache(maxsize=None)
def plain_joined(first, ending, placing):
    """The joined input, with fractions between the odd positions."""
    values, others = values_of(first), values_of(ending)
    places = {value: placing[rank] if placing[rank] % 2 else placing[rank] - Fraction(len(values) - rank, 9 ** 3)
              for rank, value in enumerate(values)}
    beyond = {value: 2 * rank + 1 for rank, value in enumerate(others)}
    return plain_dense([(name, places[value]) for name, value in first]
                       + [(name, beyond[value]) for name, value in ending])


def all_placings(messages, ending):
    return plain_placings(len(values_of(messages)), len(values_of(ending)))


def plain_row(standing, messages, endings):
    """The row, with None for each answer that does not stand."""
    return [[standing(plain_joined(frozen(messages), frozen(ending), placing))
             for placing in all_placings(messages, ending)] for ending in endings]


def all_showings(messages, endings, row):
    """Each integer that is needed, with an ending and two placings that show it, in all ways."""
    for ending, told in zip(endings, row):
        rows = list(zip(all_placings(messages, ending), told))
        for one, first in rows:
            for two, second in rows:
                apart = [rank for rank, at in enumerate(one) if at != two[rank]]
                if len(apart) == 1 and first != second:
                    yield apart[0], ending, one


def plain_needs(messages, endings, row):
    return sorted({rank for rank, _, _ in all_showings(messages, endings, row)})


def plain_equivalent(first, second, endings, row, other):
    """Point 14, from two complete rows."""
    here, there = plain_needs(first, endings, row), plain_needs(second, endings, other)
    if len(here) != len(there):
        return False
    for at, ending in enumerate(endings):
        for one, told in zip(all_placings(first, ending), row[at]):
            for two, beyond in zip(all_placings(second, ending), other[at]):
                if [one[rank] for rank in here] == [two[rank] for rank in there] and told != beyond:
                    return False
    return True


class SlowLearner:
    """Does what points 15 to 19 tell. It is told when its memory has heard something or of a change.

    What it keeps besides is only what cannot differ until the next change: answers that
    stand, and what follows from a row that is complete.
    """

    def __init__(self, memory):
        self.memory = memory
        self.endings = [[]]
        self.shown = 0
        # What happened how often, so that tests can tell what they have seen.
        self.seldom = {}
        self.begin()

    def note(self, word):
        self.seldom[word] = self.seldom.get(word, 0) + 1

    def begin(self):
        self.access = [[]]
        self.state = "search"
        self.stood = {}
        self.found = {}
        self.go_on()

    def standing(self, messages):
        key = frozen(messages)
        if self.stood.get(key) is None:
            self.stood[key] = self.memory.standing(messages)
        return self.stood[key]

    def facts(self, messages):
        """The row, if complete, with the needed integers, for the endings that there are."""
        key = (frozen(messages), len(self.endings))
        if key not in self.found:
            row = plain_row(self.standing, messages, self.endings)
            if any(None in told for told in row):
                return None
            self.found[key] = (row, plain_needs(messages, self.endings, row))
        return self.found[key]

    def first_open(self, messages):
        for ending in self.endings:
            for placing in all_placings(messages, ending):
                question = plain_joined(frozen(messages), frozen(ending), placing)
                if self.standing(question) is None:
                    return question
        return None

    def trial(self, messages, name, at):
        """A trial and its held integers, as its own ranks."""
        needs = self.facts(messages)[1]
        if at % 2 == 1:
            value = needs[at // 2]
        else:
            low = needs[at // 2 - 1] if at > 0 else -1
            high = needs[at // 2] if at // 2 < len(needs) else len(messages)
            between = [one for one in values_of(messages) if low < one < high]
            value = min(between) if between else low + Fraction(1, 2)
        whole = messages + [(name, value)]
        held = sorted(set(needs) | {value})
        return plain_dense(whole), [values_of(whole).index(one) for one in held]

    def trials(self):
        for messages in list(self.access):
            for name in self.memory.names:
                for at in range(2 * len(self.facts(messages)[1]) + 1):
                    yield (messages, name, at) + self.trial(messages, name, at)

    def equivalents(self, messages):
        """The indexes of the access inputs that a trial is equivalent to."""
        key = ("equivalents", frozen(messages), len(self.endings), len(self.access))
        if key not in self.found:
            row = self.facts(messages)[0]
            self.found[key] = [at for at, other in enumerate(self.access) if plain_equivalent(
                other, messages, self.endings, self.facts(other)[0], row)]
        return self.found[key]

    def search(self):
        """One of the three things of point 16; True if it begins again."""
        for messages in self.access:
            self.question = self.first_open(messages)
            if self.question is not None:
                return False
        for _, _, _, trial, held in self.trials():
            self.question = self.first_open(trial)
            if self.question is not None:
                return False
            row, needs = self.facts(trial)
            loose = [rank for rank in needs if rank not in held]
            if loose:
                _, ending, placing = next(one for one in all_showings(trial, self.endings, row) if one[0] == loose[0])
                name, last = trial[-1]
                value = spots(values_of(ending))[placing[last]]
                self.endings.append(plain_dense([(name, value)] + ending))
                self.note("ending by a trial")
                return True
            if not self.equivalents(trial):
                self.access.append(trial)
                return True
        self.offer()
        return False

    def offer(self):
        states = [(self.standing(messages), len(self.facts(messages)[1])) for messages in self.access]
        rules = []
        for messages, name, at, trial, held in self.trials():
            sources = [held.index(rank) for rank in self.facts(trial)[1]]
            rules.append((self.access.index(messages), name, at, self.equivalents(trial)[0], sources))
        self.guess = Machine(self.memory.names, self.memory.answers, states, rules)
        self.machine = canonical(self.guess)
        self.state = "offer"

    def run_guess(self, messages):
        return follow(table_of(self.guess), 0, (), messages)

    def guess_answer(self, messages):
        return self.guess.states[self.run_guess(messages)[0]][0]

    def mixed(self, at):
        state, kept = self.run_guess(self.w[:at])
        messages, rest = self.access[state], self.w[at:]
        needs = self.facts(messages)[1]
        placing = []
        for rank in values_of(messages):
            if rank in needs:
                placing.append(plain_position(values_of(rest), kept[needs.index(rank)]))
            elif rank == 0:
                placing.append(0)
            else:
                placing.append(placing[rank - 1] + placing[rank - 1] % 2)
        return plain_joined(frozen(messages), frozen(rest), tuple(placing))

    def halve(self):
        """Go on with the halving; True if it is over."""
        self.question = self.w
        if self.standing(self.w) is None:
            return False
        if self.standing(self.w) == self.guess_answer(self.w):
            self.note("answer of the guess")
            return True
        while self.high > self.low + 1:
            middle = (self.low + self.high) // 2
            self.question = self.mixed(middle)
            if self.standing(self.question) is None:
                return False
            if self.standing(self.question) == self.standing(self.mixed(self.high)):
                self.high = middle
            else:
                self.low = middle
        many = len(self.endings)
        for at in (self.low, self.low + 1):
            if plain_dense(self.w[at:]) not in self.endings:
                self.endings.append(plain_dense(self.w[at:]))
        self.note(f"endings by halving: {len(self.endings) - many}")
        return True

    def go_on(self):
        if self.state == "halving" and self.halve():
            self.state = "search"
        while self.state == "search" and self.search():
            pass

    def accept(self):
        self.state = "done"

    def show(self, messages):
        self.shown += 1
        self.w = plain_dense(messages)
        self.low, self.high = 0, len(messages)
        self.state = "halving"
        self.go_on()

    def pending(self):
        if self.state in ("offer", "done"):
            return (self.state, self.machine)
        return ("ask", self.question)

    def seen(self):
        """All that can be seen of a learner."""
        return (self.access, self.endings, self.shown, self.pending())
