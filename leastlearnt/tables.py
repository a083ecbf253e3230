"""Tables: the access inputs, endings and trials of a learner, and the guess that they make."""

from leastlearnt.inputs import dense, different
from leastlearnt.machines import Machine
from leastlearnt.rows import Row, equivalent


class Trial:
    """An access input and one more message, for a name and a position."""

    def __init__(self, name, at, messages, held):
        self.name = name
        self.at = at
        self.messages = messages
        self.held = held


class Table:
    """What a learner has found out. Inputs are tuples here, so that they can be looked up."""

    def __init__(self, memory):
        self.memory = memory
        self.ends = [()]
        self.begin()

    def begin(self):
        """Begin again, with the empty access input alone and with the endings that there are."""
        self.starts = [()]
        self.rows = {}
        self.trials = {}
        # The access inputs of the settled trials, as indexes.
        self.targets = {}

    def next_question(self):
        """Go on as far as answers stand; return the first input that lacks one, or None at the end."""
        while True:
            question = self.fill_access()
            if question is not None:
                return question
            question, grown = self.settle_trials()
            if not grown:
                return question

    def fill_access(self):
        """Fill the rows of the access inputs; return the first joined input that lacks an answer, or None."""
        for messages in self.starts:
            question = self.row_of(messages).fill(self.memory, self.ends)
            if question is not None:
                return question
        return None

    def settle_trials(self):
        """Settle trial by trial; return a missing question or None, and if the table has grown."""
        for messages in list(self.starts):
            for trial in self.trials_of(messages):
                if trial.messages not in self.targets:
                    question = self.row_of(trial.messages).fill(self.memory, self.ends)
                    if question is not None:
                        return question, False
                    if self.grows_by(trial):
                        return None, True
        return None, False

    def grows_by(self, trial):
        """Settle a trial whose row is complete; tell if the table has got an ending or access input."""
        found = self.row_of(trial.messages)
        loose = [rank for rank in found.ranks() if rank not in trial.held]
        if len(loose) > 0:
            return self.add_ending(longer_ending(trial, found, loose[0]))
        target = self.first_equivalent(found)
        self.targets[trial.messages] = target
        if target < len(self.starts):
            return False
        self.starts.append(trial.messages)
        return True

    def first_equivalent(self, found):
        """Return the index of the first access input that a row's input is equivalent to, or of a new one."""
        for at, messages in enumerate(self.starts):
            if equivalent(self.row_of(messages), found):
                return at
        return len(self.starts)

    def add_ending(self, messages):
        """Add an ending if it is none yet; tell if it was none."""
        ending = tuple(messages)
        if ending in self.ends:
            return False
        self.ends.append(ending)
        # Another integer may be needed now, and nothing is settled by the new ending.
        self.trials = {}
        self.targets = {}
        return True

    def row_of(self, messages):
        """Return the row of an access input or a trial."""
        if messages not in self.rows:
            self.rows[messages] = Row(messages)
        return self.rows[messages]

    def trials_of(self, messages):
        """Return the trials of an access input whose row is complete, in order."""
        if messages not in self.trials:
            ranks = self.row_of(messages).ranks()
            self.trials[messages] = [trial_for(messages, ranks, name, at)
                                     for name in self.memory.names for at in range(2 * len(ranks) + 1)]
        return self.trials[messages]

    def guess(self):
        """Return the machine with a state for each access input, when all trials are settled."""
        states = []
        rules = []
        for state, messages in enumerate(self.starts):
            found = self.row_of(messages)
            # The first ending is the empty one, with which the input is joined in one way only.
            states.append((found.parts[0].told[0], len(found.ranks())))
            for trial in self.trials_of(messages):
                sources = [trial.held.index(rank) for rank in self.row_of(trial.messages).ranks()]
                rules.append((state, trial.name, trial.at, self.targets[trial.messages], sources))
        return Machine(self.memory.names, self.memory.answers, states, rules)


def trial_for(messages, ranks, name, at):
    """Return the trial of an access input with these needed integers, for a name and a position."""
    # Twice as wide, so that there is room for a new integer between any two.
    wide = [(word, 2 * rank) for word, rank in messages]
    value = trial_integer(len(different(messages)), ranks, at)
    whole = wide + [(name, value)]
    held = sorted(set([value] + [2 * rank for rank in ranks]))
    integers = different(whole)
    return Trial(name, at, tuple(dense(whole)), [integers.index(one) for one in held])


def trial_integer(many, ranks, at):
    """Return the last integer of a trial, where the access input has 0, 2, 4 and so on, so many of them."""
    if at % 2 == 1:
        return 2 * ranks[at // 2]
    low = ranks[at // 2 - 1] + 1 if at > 0 else 0
    high = ranks[at // 2] if at // 2 < len(ranks) else many
    # If the access input has no integer there, a new one lies just below the place of the next.
    return 2 * low if low < high else 2 * low - 1


def longer_ending(trial, found, rank):
    """Return the ending that tells of an access input too that an integer of its trial is needed."""
    for part in found.parts:
        placing = part.showings()[rank]
        if placing is not None:
            name, last = trial.messages[-1]
            # The integer with the position p among those of the ending is p, if they are 1, 3, 5 and so on.
            return dense([(name, placing[last])] + [(word, 2 * value + 1) for word, value in part.ending])
    return []
