"""Machines: what they are made of, how they run, and their canonical form."""

from leastlearnt.errors import InvalidMachine
from leastlearnt.inputs import position
from leastlearnt.kinds import are_ascending, are_words, is_index, is_row


class Machine:
    """A machine with its names, answers, states and rules."""

    def __init__(self, names, answers, states, rules):
        if not are_words(names, 1, 3):
            raise InvalidMachine("names must be 1 to 3 different words")
        if not are_words(answers, 2, 4):
            raise InvalidMachine("answers must be 2 to 4 different words")
        self.names = tuple(names)
        self.answers = tuple(answers)
        self.states = checked_states(states, self.answers)
        self._table = checked_table(rules, self.names, self.states)
        self.rules = tuple([self._table[key] for key in rule_keys(self.names, self.states)])

    def __eq__(self, other):
        return (isinstance(other, Machine) and self.names == other.names and self.answers == other.answers
                and self.states == other.states and self.rules == other.rules)

    def rule(self, state, name, at):
        """Return the rule of a state for a name and a position."""
        return self._table[(state, name, at)]


def start(machine):
    """Return the configuration in which a machine starts."""
    return (0, ())


def step(machine, configuration, message):
    """Return the configuration after one more message."""
    state, kept = configuration
    name, value = message
    at = position(kept, value)
    candidates = list(kept)
    if at % 2 == 0:
        candidates.insert(at // 2, value)
    _, _, _, target, sources = machine.rule(state, name, at)
    return (target, tuple([candidates[source] for source in sources]))


def run(machine, messages):
    """Return the configuration after an input."""
    configuration = start(machine)
    for message in messages:
        configuration = step(machine, configuration, message)
    return configuration


def answer(machine, messages):
    """Return the answer to an input."""
    state, _ = run(machine, messages)
    return machine.states[state][0]


def canonical(machine):
    """Return the machine with only the states that it reaches, in the order of their first inputs."""
    reached = reached_states(machine)
    numbers = {state: number for number, state in enumerate(reached)}
    states = [machine.states[state] for state in reached]
    rules = [(numbers[state], name, at, numbers[target], sources)
             for state, name, at, target, sources in machine.rules if state in numbers]
    return Machine(machine.names, machine.answers, states, rules)


def reached_states(machine):
    """Return the states that a machine reaches, in the order of the first inputs that lead to them."""
    reached = [0]
    at = 0
    # The first input to a state goes on from the first input to the state before it, and
    # higher positions among the kept integers are higher positions among all integers:
    # so the rules, taken in their order, find the states in the order of these inputs.
    while at < len(reached):
        for state, _, _, target, _ in machine.rules:
            if state == reached[at] and target not in reached:
                reached.append(target)
        at = at + 1
    return reached


def checked_states(states, answers):
    """Return the states as tuples, or raise InvalidMachine."""
    if not is_row(states) or not 1 <= len(states) <= 12:
        raise InvalidMachine("there must be 1 to 12 states")
    for state in states:
        if not is_row(state) or len(state) != 2:
            raise InvalidMachine("a state must be a pair of its answer and the number of integers it keeps")
        if state[0] not in answers:
            raise InvalidMachine("the answer of a state must be one of the answers")
        if not is_index(state[1], 5):
            raise InvalidMachine("a state must keep 0 to 4 integers")
    if states[0][1] != 0:
        raise InvalidMachine("state 0 must keep no integer")
    return tuple([tuple(state) for state in states])


def checked_table(rules, names, states):
    """Return the rules by state, name and position, or raise InvalidMachine."""
    if not is_row(rules):
        raise InvalidMachine("the rules must be a list")
    table = {}
    for given in rules:
        rule = checked_rule(given, names, states)
        if rule[:3] in table:
            raise InvalidMachine("a rule occurs twice")
        table[rule[:3]] = rule
    if len(table) != len(rule_keys(names, states)):
        raise InvalidMachine("a rule is missing")
    return table


def rule_keys(names, states):
    """Return the state, name and position of each rule that there must be, in order."""
    return [(state, name, at) for state in range(len(states)) for name in names
            for at in range(2 * states[state][1] + 1)]


def checked_rule(rule, names, states):
    """Return a rule as a tuple, or raise InvalidMachine."""
    if not is_row(rule) or len(rule) != 5:
        raise InvalidMachine("a rule must have a state, a name, a position, a target and sources")
    state, name, at, target, sources = rule
    if not is_index(state, len(states)) or not is_index(target, len(states)):
        raise InvalidMachine("the state and the target of a rule must be states")
    if name not in names:
        raise InvalidMachine("the name of a rule must be one of the names")
    many = states[state][1]
    if not is_index(at, 2 * many + 1):
        raise InvalidMachine("the position of a rule must be one among the kept integers")
    if not are_ascending(sources) or len(sources) != states[target][1]:
        raise InvalidMachine("the sources must be ascending, as many as the target keeps")
    candidates = many if at % 2 == 1 else many + 1
    if not all([is_index(source, candidates) for source in sources]):
        raise InvalidMachine("the sources must be indexes of candidates")
    return (state, name, at, target, tuple(sources))
