"""Where letters lead in a machine, and what its states answer."""

from actasone.kinds import is_row
from actasone.usable import need, need_state


def next_state(machine, state, letter):
    need_state(machine, state)
    need(letter in machine[0], "letter")
    return machine[2][state][machine[0].index(letter)]


def made_of(machine, state, row):
    need_state(machine, state)
    need(is_row(machine, row), "row")
    return come_to(machine, state, row)[-1]


def answer_of(machine, state, look):
    need_state(machine, state)
    need(look in machine[1], "look")
    return answer_at(machine, state, look)


def answer_at(machine, state, look):
    return machine[3][state][machine[1].index(look)]


def come_to(machine, state, row):
    """The states to which the row comes, letter by letter, behind the state itself."""
    states = [state]
    for letter in row:
        states.append(machine[2][states[-1]][machine[0].index(letter)])
    return tuple(states)
