"""The errors that the package raises."""


class LearnError(ValueError):
    """The base class of all errors that the package raises."""


class InvalidMachine(LearnError):
    """A machine is not as it must be, or does not fit the other one."""


class InvalidMemory(LearnError):
    """The names, the answers or the number of lies are not as they must be."""


class InvalidInput(LearnError):
    """A name is none of the memory's."""


class UnknownAnswer(LearnError):
    """An answer is none of the memory's."""


class TooLarge(LearnError):
    """A comparison counts too many joint configurations."""


class TooManyLies(LearnError):
    """More answers would surely be wrong than the memory allows."""


class Incomplete(LearnError):
    """A row lacks an answer that stands."""


class NothingAsked(LearnError):
    """The learner is done and waits for no reply."""


class NoDifference(LearnError):
    """The offer gives the very answer that stands for the shown input."""


class InvalidTurns(LearnError):
    """The numbers of the questions are not as they must be."""
