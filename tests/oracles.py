"""Slow and plain ways to get what the package must return."""

from fractions import Fraction
from functools import lru_cache
from itertools import product


def values_of(messages):
    return sorted({value for _, value in messages})


def plain_position(values, value):
    less = len([one for one in values if one < value])
    return 2 * less + 1 if value in values else 2 * less


def plain_dense(messages):
    return [(name, len([one for one in values_of(messages) if one < value])) for name, value in messages]


def plain_code(messages):
    return [(name, plain_position(values_of(messages[:at]), value)) for at, (name, value) in enumerate(messages)]


def order_key(names, messages):
    return (len(messages), [(names.index(name), at) for name, at in plain_code(messages)])


@lru_cache(maxsize=None)
def dense_inputs(names, length):
    """All dense inputs of a length, in the order of point 5."""
    found = []
    for values in product(range(length), repeat=length):
        if set(values) == set(range(len(set(values)))):
            for words in product(names, repeat=length):
                found.append(list(zip(words, values)))
    return sorted(found, key=lambda messages: order_key(names, messages))


def inputs_up_to(names, length):
    return [messages for many in range(length + 1) for messages in dense_inputs(tuple(names), many)]


def table_of(machine):
    return {rule[:3]: rule[3:] for rule in machine.rules}


def follow(table, state, kept, messages):
    """The state and the kept integers after messages, by a table of rules."""
    for name, value in messages:
        target, sources = table[(state, name, plain_position(kept, value))]
        candidates = sorted(set(kept) | {value})
        state, kept = target, tuple(candidates[source] for source in sources)
    return state, kept


def plain_answer(machine, messages):
    return machine.states[follow(table_of(machine), 0, (), messages)[0]][0]


def plain_first_difference(machine, other, length):
    """The first difference of at most this length, by a look at all inputs."""
    tables = (table_of(machine), table_of(other))
    for messages in inputs_up_to(machine.names, length):
        one, two = [follow(table, 0, (), messages)[0] for table in tables]
        if machine.states[one][0] != other.states[two][0]:
            return messages
    return None


def plain_reached(machine, length):
    """The states that inputs of at most this length lead to, in the order of the first such inputs."""
    found = []
    table = table_of(machine)
    for messages in inputs_up_to(machine.names, length):
        state = follow(table, 0, (), messages)[0]
        if state not in found:
            found.append(state)
    return found


def pattern(first, second):
    """Two configurations with ranks in the place of integers."""
    both = sorted(set(first[1]) | set(second[1]))
    return tuple((state, tuple(both.index(value) for value in kept)) for state, kept in (first, second))


def spots(values):
    """An integer or a fraction at each position among some values."""
    if not values:
        return [Fraction(0)]
    found = [values[0] - 1]
    for at, value in enumerate(values):
        above = values[at + 1] if at + 1 < len(values) else value + 2
        found += [value, Fraction(value + above) / 2]
    return found


def count_joint(machine, other, first, second):
    """How many joint configurations are counted, and if a difference ends the search."""
    tables = (table_of(machine), table_of(other))
    waiting = [pattern(first, second)]
    seen = set(waiting)
    if machine.states[first[0]][0] != other.states[second[0]][0]:
        return 1, True
    for (one, low), (two, high) in waiting:
        for name, value in product(machine.names, spots(sorted(set(low) | set(high)))):
            after = follow(tables[0], one, low, [(name, value)])
            beyond = follow(tables[1], two, high, [(name, value)])
            joint = pattern(after, beyond)
            if joint not in seen:
                seen.add(joint)
                waiting.append(joint)
                if machine.states[after[0]][0] != other.states[beyond[0]][0]:
                    return len(waiting), True
    return len(waiting), False


def count_shifted(machine, state, index):
    """What the comparison of a state with itself counts, one register being shifted."""
    kept = tuple(range(0, 2 * machine.states[state][1], 2))
    shifted = kept[:index] + (kept[index] + 1,) + kept[index + 1:]
    return count_joint(machine, machine, (state, kept), (state, shifted))


def plain_needed(machine, state):
    return [index for index in range(machine.states[state][1]) if count_shifted(machine, state, index)[1]]


def plain_word(value):
    letters = "abcdefghijklmnopqrstuvwxyz"
    return type(value) is str and len(value) in range(1, 9) and not value.strip(letters)


def plain_number(value, top):
    return type(value) is int and 0 <= value <= top


def plain_valid(names, answers, states, rules):
    """Tell if a machine may be made of these parts, as points 3 and 7 say."""
    rows = (list, tuple)
    for words, low, high in ((names, 1, 3), (answers, 2, 4)):
        if type(words) not in rows or not low <= len(words) <= high or not all(map(plain_word, words)):
            return False
        if len(set(words)) < len(words):
            return False
    if type(states) not in rows or len(states) not in range(1, 13) or type(rules) not in rows:
        return False
    if not all(type(state) in rows and len(state) == 2 for state in states):
        return False
    if not all(answer in answers and plain_number(many, 4) for answer, many in states) or states[0][1]:
        return False
    wanted = [(state, name, at) for state, (_, many) in enumerate(states)
              for name in names for at in range(2 * many + 1)]
    for rule in rules:
        if type(rule) not in rows or len(rule) != 5 or type(rule[4]) not in rows:
            return False
        if not plain_number(rule[0], 11) or not plain_number(rule[2], 8) or not plain_word(rule[1]):
            return False
        if tuple(rule[:3]) not in wanted or not plain_number(rule[3], len(states) - 1):
            return False
        wanted.remove(tuple(rule[:3]))
        last = states[rule[0]][1] - rule[2] % 2
        if not all(plain_number(source, last) for source in rule[4]):
            return False
        if sorted(set(rule[4])) != list(rule[4]) or len(rule[4]) != states[rule[3]][1]:
            return False
    return not wanted
