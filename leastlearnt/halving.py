"""Halving: how a shown input, on which a guess errs, leads to new endings."""

from leastlearnt.inputs import dense, different, joined, lowest, position
from leastlearnt.machines import answer, run


def halve(table, guess, shown):
    """Return the input that must be asked next, or None, and the endings that were found.

    What has been asked so far need not be kept: the answers that stand lead the same way again.
    """
    own = answer(guess, shown)
    found = table.memory.standing(shown)
    if found is None:
        return shown, []
    if found == own:
        return None, []
    low = 0
    high = len(shown)
    while high > low + 1:
        middle = (low + high) // 2
        question = mixed(table, guess, shown, middle)
        found = table.memory.standing(question)
        if found is None:
            return question, []
        # The mixed input high has the guess's own answer from the beginning on.
        if found == own:
            high = middle
        else:
            low = middle
    return None, [dense(shown[low:]), dense(shown[low + 1:])]


def mixed(table, guess, shown, many):
    """Return the mixed input: so many messages of the shown one are heard by the guess."""
    state, kept = run(guess, shown[:many])
    messages = table.starts[state]
    ranks = table.row_of(messages).ranks()
    rest = shown[many:]
    integers = different(rest)
    placing = []
    for rank in range(len(different(messages))):
        if rank in ranks:
            placing.append(position(integers, kept[ranks.index(rank)]))
        else:
            placing.append(lowest(placing))
    return joined(messages, rest, placing)
