"""Which states no row of letters tells apart, and the machines that are made of this."""

from actasone.kinds import is_machine
from actasone.reaching import least_rows
from actasone.usable import need, need_looks, need_machine, need_two_states


def alike_classes(machine, looks):
    need_looks(machine, looks)
    return classes_by(machine, looks)


def are_alike(machine, state, other, looks):
    need_two_states(machine, state, other, looks)
    classes = classes_by(machine, looks)
    return classes[state] == classes[other]


def parting_row(machine, state, other, looks):
    need_two_states(machine, state, other, looks)
    return least_parting(machine, state, other, looks)


def starts_alike(machine, other):
    need_machine(machine)
    need(is_machine(other) and other[:2] == machine[:2], "other")
    return least_of(machine) == least_of(other)


def least_machine(machine):
    need_machine(machine)
    return least_of(machine)


def folded(machine):
    need_machine(machine)
    return folded_of(machine)


def answers_to(machine, state, looks):
    """The answers of a state to these looks."""
    return tuple(machine[3][state][machine[1].index(look)] for look in looks)


def least_with(keys):
    """For each index the least one that has the same key."""
    firsts = {}
    for k, key in enumerate(keys):
        if key not in firsts:
            firsts[key] = k
    return tuple(firsts[key] for key in keys)


def classes_by(machine, looks):
    """For each state the least one alike to it: parted by answers, then by letters for as long
    as that parts any more."""
    finer = least_with([answers_to(machine, state, looks) for state in range(len(machine[2]))])
    classes = ()
    while finer != classes:
        classes = finer
        lates = [tuple([classes[late] for late in row]) for row in machine[2]]
        finer = least_with(list(zip(classes, lates)))
    return classes


def least_parting(machine, state, other, looks):
    rows = {(state, other): ()}
    order = [(state, other)]
    k = 0
    while k < len(order):
        one, two = order[k]
        if answers_to(machine, one, looks) != answers_to(machine, two, looks):
            return rows[(one, two)]
        for letter, late, beside in zip(machine[0], machine[2][one], machine[2][two]):
            if (late, beside) not in rows:
                rows[(late, beside)] = rows[(one, two)] + (letter,)
                order.append((late, beside))
        k = k + 1
    return None


def folded_of(machine):
    classes = classes_by(machine, machine[1])
    return kept_states(machine, classes, sorted(set(classes)))


def least_of(machine):
    small = folded_of(machine)
    # The rows ascend in the order in which the states are found.
    return kept_states(small, tuple(range(len(small[2]))), list(least_rows(small, 0)))


def kept_states(machine, classes, states):
    """The machine of these states alone, numbered in this order; classes tells which of them
    stands for each state that a letter leads to from them."""
    numbers = {state: k for k, state in enumerate(states)}
    moves = tuple(tuple([numbers[classes[late]] for late in machine[2][state]]) for state in states)
    return (machine[0], machine[1], moves, tuple(machine[3][state] for state in states))
