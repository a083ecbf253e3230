"""What kind of value something is: rows, integers, indexes and words."""


def is_row(value):
    """Tell if a value is a tuple, or a list in the place of one."""
    return isinstance(value, (list, tuple))


def is_whole(value):
    """Tell if a value is an integer, which True and False are not."""
    return isinstance(value, int) and not isinstance(value, bool)


def is_index(value, many):
    """Tell if a value is an index of one of so many things."""
    return is_whole(value) and 0 <= value < many


def is_word(value):
    """Tell if a value is a word: a string of 1 to 8 letters from a to z."""
    if not isinstance(value, str) or not 1 <= len(value) <= 8:
        return False
    return all(["a" <= sign <= "z" for sign in value])


def are_words(values, fewest, most):
    """Tell if values are a row of different words, neither too few nor too many."""
    if not is_row(values) or not fewest <= len(values) <= most:
        return False
    if not all([is_word(value) for value in values]):
        return False
    return len(set(values)) == len(values)


def are_ascending(values):
    """Tell if values are a row of strictly ascending integers."""
    if not is_row(values) or not all([is_whole(value) for value in values]):
        return False
    return all([values[at] < values[at + 1] for at in range(len(values) - 1)])
