"""Memories: what was heard, which answers are possible, and which one stands."""

from leastlearnt.errors import InvalidInput, InvalidMemory, TooManyLies, UnknownAnswer
from leastlearnt.inputs import dense
from leastlearnt.kinds import are_words, is_index, is_row, is_whole

# So many answers that a memory hears may be wrong at most.
MOST_LIES = 3


class Memory:
    """A memory of the answers that were heard, of which at most so many as its lies are wrong."""

    def __init__(self, names, answers, lies):
        if not are_words(names, 1, 3):
            raise InvalidMemory("names must be 1 to 3 different words")
        if not are_words(answers, 2, 4):
            raise InvalidMemory("answers must be 2 to 4 different words")
        if not is_index(lies, MOST_LIES + 1):
            raise InvalidMemory("lies must be an integer from 0 to 3")
        self.names = tuple(names)
        self.answers = tuple(answers)
        self.lies = lies
        # For each kept input, how often each answer was heard.
        self._counts = {}
        # What was surely wrong at kept inputs and at forgotten ones.
        self._wrong = 0
        self._learners = []

    def hear(self, messages, answer):
        """Hear an answer to an input; return the answer that stands for it now, or None."""
        kept = self.kept_form(messages)
        if answer not in self.answers:
            raise UnknownAnswer("the answer must be one of the memory's")
        before = self._counts.get(kept, [0] * len(self.answers))
        after = list(before)
        after[self.answers.index(answer)] += 1
        wrong = self._wrong - surely_wrong(before) + surely_wrong(after)
        if wrong > self.lies:
            raise TooManyLies("more answers would surely be wrong than the memory allows")
        self._counts[kept] = after
        self._wrong = wrong
        for learner in list(self._learners):
            learner.proceed()
        return self.standing_for(kept)

    def standing(self, messages):
        """Return the answer that stands for an input, or None."""
        return self.standing_for(self.kept_form(messages))

    def possible(self, messages):
        """Return the answers to an input that are possible."""
        return self.possible_for(self.kept_form(messages))

    def heard(self, messages):
        """Return how often each answer was heard for an input."""
        return list(self._counts.get(self.kept_form(messages), [0] * len(self.answers)))

    def change(self, names):
        """Forget the inputs with one of the names; return how many these are."""
        if not is_row(names) or not all([name in self.names for name in names]):
            raise InvalidInput("each name must be one of the memory's")
        forgotten = [kept for kept in self._counts if has_name(kept, names)]
        for kept in forgotten:
            del self._counts[kept]
        for learner in list(self._learners):
            learner.begin_again()
        return len(forgotten)

    def kept(self):
        """Return the kept inputs, in the order in which they were first heard."""
        return [list(kept) for kept in self._counts]

    def wrong(self):
        """Return how many answers were surely wrong."""
        return self._wrong

    def attach(self, learner):
        """From now on, let the learner go on after each answer and begin again after each change."""
        self._learners.append(learner)

    def kept_form(self, messages):
        """Return the dense input as it is kept, or raise InvalidInput."""
        if not is_row(messages) or not all([is_message(message, self.names) for message in messages]):
            raise InvalidInput("each message must have one of the memory's names and an integer")
        return tuple(dense(messages))

    def standing_for(self, kept):
        """Return the answer that stands for a dense input, or None."""
        possible = self.possible_for(kept)
        return possible[0] if len(possible) == 1 else None

    def possible_for(self, kept):
        """Return the answers to a dense input that are possible."""
        if kept not in self._counts:
            return list(self.answers)
        counts = self._counts[kept]
        # An answer is possible if the lies suffice for all others here and what is wrong elsewhere.
        most = self.lies - self._wrong + surely_wrong(counts)
        total = sum(counts)
        return [word for at, word in enumerate(self.answers) if total - counts[at] <= most]


def surely_wrong(counts):
    """Return how many of the answers to one input were surely wrong."""
    return sum(counts) - max(counts)


def has_name(messages, names):
    """Tell if a message of the input has one of the names."""
    return any([name in names for name, _ in messages])


def is_message(message, names):
    """Tell if something is a message with one of the names."""
    return is_row(message) and len(message) == 2 and message[0] in names and is_whole(message[1])
