"""Machines made of machines."""

from actasone.kinds import is_machine, is_name, is_set_of, is_state
from actasone.usable import need, need_machine


def only_looks(machine, looks):
    need_machine(machine)
    need(is_set_of(looks, machine[1]) and looks != (), "looks")
    places = [machine[1].index(look) for look in looks]
    return (machine[0], looks, machine[2], picked(machine[3], places))


def picked(rows, places):
    """The rows, each with what it has at these places alone."""
    return tuple(tuple([row[place] for place in places]) for row in rows)


def renumbered(machine, states):
    need_machine(machine)
    need(are_all_states(machine, states), "states")
    late = {state: k for k, state in enumerate(states)}
    moves = tuple(tuple([late[state] for state in machine[2][old]]) for old in states)
    return (machine[0], machine[1], moves, tuple(machine[3][old] for old in states))


def are_all_states(machine, thing):
    """Whether any value is a tuple of all states, each once."""
    if not isinstance(thing, tuple) or not all([is_state(machine, state) for state in thing]):
        return False
    return sorted(thing) == list(range(len(machine[2])))


def renamed_machine(machine, letters, looks):
    need_machine(machine)
    need(are_new_names(letters, len(machine[0])), "letters")
    need(are_new_names(looks, len(machine[1])), "looks")
    late_letters = sorted(letters)
    late_looks = sorted(looks)
    moves = picked(machine[2], [letters.index(letter) for letter in late_letters])
    answers = picked(machine[3], [looks.index(look) for look in late_looks])
    return (tuple(late_letters), tuple(late_looks), moves, answers)


def are_new_names(thing, many):
    """Whether any value is a tuple of so many different names, in whatever order."""
    if not isinstance(thing, tuple) or not all([is_name(name) for name in thing]):
        return False
    return len(thing) == many and len(set(thing)) == many


def side_by_side(machine, other):
    need_machine(machine)
    need(is_machine(other) and other[0] == machine[0], "other")
    need(not any([look in machine[1] for look in other[1]]), "other")
    many = len(other[2])
    moves = []
    answers = []
    for state, row in enumerate(machine[2]):
        for beside, late in enumerate(other[2]):
            moves.append(tuple(one * many + two for one, two in zip(row, late)))
            answers.append(machine[3][state] + other[3][beside])
    looks = machine[1] + other[1]
    late_looks = sorted(looks)
    places = [looks.index(look) for look in late_looks]
    return (machine[0], tuple(late_looks), tuple(moves), picked(answers, places))
