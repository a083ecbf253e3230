"""Comparing machines: first differences, needed registers and least machines."""

from leastlearnt.errors import InvalidMachine, TooLarge
from leastlearnt.machines import Machine, canonical, start, step

# So many joint configurations are counted at most.
LIMIT = 3000

# Wider than a state keeps integers, so that all that lie between two needed ones fit.
WIDE = 8


class Search:
    """A search for a difference, with the joint configurations in the order in which they are reached.

    In a joint configuration the integer with the rank i among all that both machines
    keep is written as 2i + 1, so that the integer p has the position p among them.
    """

    def __init__(self, machine, other):
        self.machine = machine
        self.other = other
        self.joints = []
        self.origins = []
        self.known = {}

    def reach(self, first, second, origin):
        """Count two configurations if they are new; tell if they are and their answers differ."""
        joint = settled(first, second)
        if joint in self.known:
            return False
        self.known[joint] = True
        self.joints.append(joint)
        self.origins.append(origin)
        if len(self.joints) > LIMIT:
            raise TooLarge("there are too many joint configurations")
        return self.machine.states[first[0]][0] != self.other.states[second[0]][0]

    def go_on(self, at):
        """Reach what follows the joint configuration of an index; tell if a difference is found."""
        first, second = self.joints[at]
        for name in self.machine.names:
            for place in range(2 * len(both_kept(first, second)) + 1):
                message = (name, place)
                following = step(self.machine, first, message)
                if self.reach(following, step(self.other, second, message), (at, message)):
                    return True
        return False

    def moves(self):
        """Return the messages that lead to the joint configuration that was reached last."""
        moves = []
        origin = self.origins[-1]
        while origin is not None:
            at, message = origin
            moves.append(message)
            origin = self.origins[at]
        return moves[::-1]


def first_difference(machine, other):
    """Return the first dense input to which two machines give different answers, or None."""
    if machine.names != other.names or machine.answers != other.answers:
        raise InvalidMachine("the machines must have the same names and answers")
    moves = search_difference(machine, other, start(machine), start(other))
    if moves is None:
        return None
    return told(machine, other, moves)


def needed_registers(machine, state):
    """Return the indexes of the needed registers of a state, ascending."""
    return [index for index in range(machine.states[state][1]) if is_needed(machine, state, index)]


def least(machine):
    """Return the least machine that answers as a machine does."""
    whole = canonical(machine)
    needs = [needed_registers(whole, state) for state in range(len(whole.states))]
    leaders = class_leaders(whole, needs)
    kept = sorted(set(leaders))
    numbers = [kept.index(leader) for leader in leaders]
    states = [(whole.states[leader][0], len(needs[leader])) for leader in kept]
    rules = []
    for leader in kept:
        for name in whole.names:
            for at in range(2 * len(needs[leader]) + 1):
                target, sources = least_move(whole, needs, leader, (name, at))
                rules.append((numbers[leader], name, at, numbers[target], sources))
    # The first input to a class is the first one to its leader, so that this is canonical.
    return Machine(whole.names, whole.answers, states, rules)


def search_difference(machine, other, first, second):
    """Return the messages from two configurations to their first difference, or None.

    The integer of each message is its position among those that both machines keep.
    """
    search = Search(machine, other)
    if search.reach(first, second, None):
        return []
    at = 0
    while at < len(search.joints):
        if search.go_on(at):
            return search.moves()
        at = at + 1
    return None


def settled(first, second):
    """Return the joint configuration of two configurations."""
    places = {value: 2 * rank + 1 for rank, value in enumerate(both_kept(first, second))}
    return ((first[0], tuple([places[value] for value in first[1]])),
            (second[0], tuple([places[value] for value in second[1]])))


def both_kept(first, second):
    """Return the different integers that two configurations keep, ascending."""
    return sorted(set(first[1] + second[1]))


def told(machine, other, moves):
    """Return the first dense input that makes the moves of both machines from their start."""
    first = start(machine)
    second = start(other)
    messages = []
    for name, place in moves:
        kept = both_kept(first, second)
        if place % 2 == 1:
            value = kept[place // 2]
        else:
            # The least position there is just above the next lower kept integer.
            value = kept[place // 2 - 1] + 1 if place > 0 else 0
            messages = [(word, raised(rank, value)) for word, rank in messages]
            first = make_room(first, value)
            second = make_room(second, value)
        messages.append((name, value))
        first = step(machine, first, (name, value))
        second = step(other, second, (name, value))
    return messages


def make_room(configuration, value):
    """Return a configuration in which no kept integer is the value, or less now than it was."""
    return (configuration[0], tuple([raised(rank, value) for rank in configuration[1]]))


def raised(rank, value):
    """Return a rank after a new integer has got the rank that is the value."""
    return rank + 1 if rank >= value else rank


def is_needed(machine, state, index):
    """Tell if a register of a state is needed."""
    kept = [2 * at for at in range(machine.states[state][1])]
    shifted = list(kept)
    shifted[index] = kept[index] + 1
    return search_difference(machine, machine, (state, tuple(kept)), (state, tuple(shifted))) is not None


def class_leaders(machine, needs):
    """Return for each state the first state that is the same in effect."""
    leaders = []
    for state in range(len(machine.states)):
        leaders.append(leader_of(machine, needs, sorted(set(leaders)), state))
    return leaders


def leader_of(machine, needs, leaders, state):
    """Return the one of the leaders that is the same in effect as a state, or the state itself."""
    for leader in leaders:
        if same_in_effect(machine, needs, leader, state):
            return leader
    return state


def same_in_effect(machine, needs, first, second):
    """Tell if two states are the same in effect."""
    if len(needs[first]) != len(needs[second]):
        return False
    one = (first, spread(machine.states[first][1], needs[first]))
    two = (second, spread(machine.states[second][1], needs[second]))
    return search_difference(machine, machine, one, two) is None


def spread(many, needed):
    """Return integers for so many registers, the needed ones being WIDE, 2 * WIDE and so on."""
    kept = []
    last = 0
    for index in range(many):
        last = (last // WIDE + 1) * WIDE if index in needed else last + 1
        kept.append(last)
    return tuple(kept)


def least_move(machine, needs, state, move):
    """Return the target and the sources for a name and a position among the needed registers."""
    name, at = move
    kept = spread(machine.states[state][1], needs[state])
    candidates = [kept[index] for index in needs[state]]
    # It does not matter where between two needed integers the new one lies, so it lies
    # just below the upper one, where nothing is kept.
    value = (at // 2 + 1) * WIDE - 1 + at % 2
    if at % 2 == 0:
        candidates.insert(at // 2, value)
    target, held = step(machine, (state, kept), (name, value))
    # What a needed register of the target holds was needed before, or has just been heard.
    return target, [candidates.index(held[index]) for index in needs[target]]
