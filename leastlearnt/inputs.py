"""Inputs: their dense form, their code and order, and how two are joined."""


def dense(messages):
    """Return the input with its rank in the place of each integer."""
    ranks = {value: rank for rank, value in enumerate(different(messages))}
    return [(name, ranks[value]) for name, value in messages]


def alike(first, second):
    """Tell if two inputs have the same dense input."""
    return dense(first) == dense(second)


def code(messages):
    """Return for each message its name and its integer's position among those before it."""
    heard = []
    pairs = []
    for name, value in messages:
        at = position(heard, value)
        if at % 2 == 0:
            heard.insert(at // 2, value)
        pairs.append((name, at))
    return pairs


def compare(names, first, second):
    """Return -1, 0 or 1 if the first input comes before, with or after the second one."""
    if len(first) != len(second):
        return order(len(first), len(second))
    for (name, at), (other, place) in zip(code(first), code(second)):
        if name != other:
            return order(names.index(name), names.index(other))
        if at != place:
            return order(at, place)
    # Inputs with the same code are alike: each position tells how the next integer lies.
    return 0


def placings(first, ending):
    """Return the placings of a first input and an ending, in order."""
    top = 2 * len(different(ending))
    rows = [()]
    for _ in different(first):
        rows = [row + (at,) for row in rows for at in range(lowest(row), top + 1)]
    return rows


def joined(first, ending, placing):
    """Return the dense input of the first input and the ending, placed as told."""
    low = different(first)
    high = different(ending)
    # Each position is a stretch as wide as this, so that all integers of the first
    # input fit into the same even position, one above the other.
    wide = len(low) + 1
    spots = {value: (2 * rank + 1) * wide for rank, value in enumerate(high)}
    places = {}
    for rank, value in enumerate(low):
        at = placing[rank]
        places[value] = at * wide if at % 2 == 1 else at * wide + rank
    beginning = [(name, places[value]) for name, value in first]
    return dense(beginning + [(name, spots[value]) for name, value in ending])


def different(messages):
    """Return the different integers of an input, ascending."""
    return sorted(set([value for _, value in messages]))


def position(integers, value):
    """Return the position of an integer among different ascending ones."""
    low = 0
    high = len(integers)
    while low < high:
        middle = (low + high) // 2
        if integers[middle] < value:
            low = middle + 1
        else:
            high = middle
    if low < len(integers) and integers[low] == value:
        return 2 * low + 1
    return 2 * low


def order(first, second):
    """Return -1, 0 or 1 if the first integer is less, equal or greater."""
    if first == second:
        return 0
    return -1 if first < second else 1


def lowest(placing):
    """Return the least position that may follow in a placing."""
    if len(placing) == 0:
        return 0
    # An odd position is an integer of the ending, which only one integer can equal.
    return placing[-1] + placing[-1] % 2
