"""Machines to try the package with."""

from itertools import combinations

from leastlearnt.comparing import first_difference
from leastlearnt.machines import Machine, answer
from tests.oracles import follow, table_of


class Dice:
    """Numbers that look like chance and are the same on every Python."""

    def __init__(self, seed):
        self.value = seed * 7919 + 1

    def below(self, many):
        self.value = (self.value * 6364136223846793005 + 1442695040888963407) % 2 ** 64
        return (self.value >> 33) % many

    def pick(self, things):
        return things[self.below(len(things))]

    def choose(self, things, many):
        rest = list(things)
        while len(rest) > many:
            rest.pop(self.below(len(rest)))
        return tuple(rest)

    def shuffle(self, things):
        rest = list(things)
        return [rest.pop(self.below(len(rest))) for _ in things]


def rising():
    """Answers yes if the last integer is greater than the one before it."""
    rules = [(0, "put", 0, 1, (0,))]
    for state in [1, 2]:
        rules += [(state, "put", 0, 1, (0,)), (state, "put", 1, 1, (0,)), (state, "put", 2, 2, (1,))]
    return Machine(["put"], ["no", "yes"], [("no", 0), ("no", 1), ("yes", 1)], rules)


def random_machine(dice, names, answers, keeps):
    """A machine whose states keep so many integers, with rules by chance."""
    states = [(dice.pick(answers), many) for many in keeps]
    rules = []
    for state, many in enumerate(keeps):
        for name in names:
            for at in range(2 * many + 1):
                candidates = many + 1 - at % 2
                target = dice.pick([one for one, other in enumerate(keeps) if other <= candidates])
                rules.append((state, name, at, target, dice.choose(range(candidates), keeps[target])))
    return Machine(names, answers, states, dice.shuffle(rules))


def random_keeps(dice, states, most):
    return [0] + [dice.below(most + 1) for _ in range(states - 1)]


def small_machine(dice, names=("a", "b"), answers=("no", "yes"), most=3):
    """A machine by chance with few states."""
    return random_machine(dice, names, answers, random_keeps(dice, 1 + dice.below(5), most))


def one_answer(machine):
    """The machine with the first answer in all its states."""
    states = [(machine.answers[0], many) for _, many in machine.states]
    return Machine(machine.names, machine.answers, states, machine.rules)


def changed_rule(dice, machine):
    """The machine with one rule made anew by chance."""
    at = dice.below(len(machine.rules))
    state, name, place, _, _ = machine.rules[at]
    candidates = machine.states[state][1] + 1 - place % 2
    target = dice.pick([one for one, other in enumerate(machine.states) if other[1] <= candidates])
    rule = (state, name, place, target, dice.choose(range(candidates), machine.states[target][1]))
    rules = machine.rules[:at] + (rule,) + machine.rules[at + 1:]
    return Machine(machine.names, machine.answers, machine.states, rules)


def renumbered(machine, numbers):
    """The machine with numbers[s] as the new number of the state s."""
    states = [None] * len(numbers)
    for state, number in enumerate(numbers):
        states[number] = machine.states[state]
    rules = [(numbers[state], name, at, numbers[target], sources)
             for state, name, at, target, sources in machine.rules]
    return Machine(machine.names, machine.answers, states, rules)


def padded_shapes(dice, machine, total):
    """For each state of a padded machine: what it stands for, how many it keeps, which of them count."""
    shapes = [(state, many, tuple(range(many))) for state, (_, many) in enumerate(machine.states)]
    while len(shapes) < total:
        state = dice.below(len(machine.states))
        many = machine.states[state][1]
        more = dice.below(5 - many)
        shapes.append((state, many + more, dice.choose(range(many + more), many)))
    return shapes


def padded(dice, machine, shapes):
    """A machine that answers alike, with copies of states and registers that are not needed."""
    table = table_of(machine)
    rules = []
    for state, (one, many, held) in enumerate(shapes):
        values = range(1, 2 * many, 2)
        for name in machine.names:
            for at in range(2 * many + 1):
                aim, kept = follow(table, one, tuple(values[index] for index in held), [(name, at)])
                candidates = sorted(set(values) | {at})
                options = [(target, sources) for target, (other, wide, places) in enumerate(shapes) if other == aim
                           for sources in combinations(range(len(candidates)), wide)
                           if tuple(candidates[sources[place]] for place in places) == kept]
                rules.append((state, name, at) + dice.pick(options))
    states = [(machine.states[one][0], many) for one, many, _ in shapes]
    return Machine(machine.names, machine.answers, states, rules)


def chain_rules(own, names, keeps, base=0, lead=False):
    """Rules of a chain: a new integer with its own name goes on to the next state, all else stays.

    Each state keeps at most one integer more than the one before it, so that
    what two chains with different names of their own keep comes to lie in every
    way. With `lead` the first state goes on with each name.
    """
    rules = []
    for state, many in enumerate(keeps):
        for name in names:
            for at in range(2 * many + 1):
                old = [index for index in range(many + 1) if index != at // 2]
                target, sources = state, range(many) if at % 2 == 1 else old
                moves = name == own or (lead and state == 0)
                if moves and at % 2 == 0 and state + 1 < len(keeps):
                    target = state + 1
                    sources = range(many + 1) if keeps[target] > many else old[:keeps[target]]
                rules.append((base + state, name, at, base + target, tuple(sources)))
    return rules


def chain(own, keeps, last="no", lead=False):
    """A chain that answers no, but for its last state."""
    states = [("no", many) for many in keeps[:-1]] + [(last, keeps[-1])]
    return Machine(("a", "b"), ("no", "yes"), states, chain_rules(own, ("a", "b"), keeps, 0, lead))


def fork(first, second):
    """A machine that answers no; from its start the names a and b lead into one chain each."""
    names = ("a", "b")
    other = 1 + len(first)
    rules = [(0, "a", 0, 1, tuple(range(first[0]))), (0, "b", 0, other, tuple(range(second[0])))]
    rules += chain_rules("a", names, first, 1) + chain_rules("b", names, second, other)
    return Machine(names, ("no", "yes"), [("no", many) for many in [0] + first + second], rules)


def writing(machine):
    """All that tells a machine, to see that it stays as it was."""
    return (machine.names, machine.answers, machine.states, machine.rules)


# By these a learner meets what is seldom: an integer of a trial that is needed though the access input
# did not need it, shown by several endings and placings, or mixed inputs in which an integer that is
# not needed lies above one that is.
CHOSEN = (9148, 33102, 37279, 9174, 11132, 29046, 28938, 31546, 4604, 21066, 22964, 24644, 23236, 24022, 23532)


def chosen_machine(seed):
    """A machine by chance with up to three registers in a state."""
    dice = Dice(seed)
    names, answers = ("a", "b")[:1 + seed % 2], ("no", "yes", "so")[:2 + seed // 2 % 2]
    return random_machine(dice, names, answers, random_keeps(dice, 2 + dice.below(4), 1 + dice.below(3)))


def some_difference(dice, machine, offer):
    """An input on which an offer errs, perhaps a longer one than the first, or True if there is none."""
    shown = first_difference(machine, offer)
    if shown is None:
        return True
    if dice.below(2):
        for _ in range(20):
            more = [(dice.pick(machine.names), dice.below(3)) for _ in range(dice.below(5))] + shown
            if answer(machine, more) != answer(offer, more):
                return more
    return shown
