"""Which looks letters can move, and past which age."""

from actasone.kinds import is_number, is_row, is_tuple
from actasone.machineparts import answer_at, come_to
from actasone.reaching import least_rows
from actasone.usable import need, need_look


def moves_past(machine, look, age):
    need_look(machine, look)
    need(is_number(age), "age")
    return is_past(least_age_of(machine, look), age)


def least_look_age(machine, look):
    need_look(machine, look)
    return least_age_of(machine, look)


def moving_walk(machine, look, age):
    need_look(machine, look)
    need(is_number(age), "age")
    return walk_past(machine, look, age)


def walk_past(machine, look, age):
    """A moving walk, None without one."""
    for state, ahead in least_rows(machine, 0).items():
        if is_past(longest_stay(machine, look, state), age):
            return (ahead, leaving_row(machine, look, state, age))
    return None


def is_moving(machine, look, age, thing):
    need_look(machine, look)
    need(is_number(age), "age")
    if not is_tuple(thing, 2) or not is_row(machine, thing[0]) or not is_row(machine, thing[1]):
        return False
    ahead, row = thing
    if len(row) <= age:
        return False
    state = come_to(machine, 0, ahead)[-1]
    last = come_to(machine, state, row)[len(row) - age :]
    answer = answer_at(machine, state, look)
    return all([answer_at(machine, late, look) != answer for late in last])


def is_past(least, age):
    """Whether an age is less than the least one, which is None where each age is less."""
    return least is None or age < least


def least_age_of(machine, look):
    stays = [longest_stay(machine, look, state) for state in least_rows(machine, 0)]
    return None if None in stays else max(stays)


def longest_stay(machine, look, state):
    """How many states in a row can have another answer than a state, behind it; None without end.

    More states in a row than there are means that one of them comes twice: then there is a ring.
    """
    stays = other_states(machine, look, state)
    many = 0
    while stays != []:
        many = many + 1
        if many > len(machine[2]):
            return None
        stays = leading_on(machine, stays)
    return many


def other_states(machine, look, state):
    """The states that rows make of a state, and that have another answer than it."""
    answer = answer_at(machine, state, look)
    return [late for late in least_rows(machine, state) if answer_at(machine, late, look) != answer]


def leading_on(machine, states):
    """Those of the states from which a letter leads to one of them."""
    return [state for state in states if any([late in states for late in machine[2][state]])]


def leaving_row(machine, look, state, age):
    """A row whose age + 1 last states have another answer than the state at which it begins."""
    stays = [other_states(machine, look, state)]
    for _ in range(age):
        stays.append(leading_on(machine, stays[-1]))
    late = stays[-1][0]
    row = least_rows(machine, state)[late]
    for goal in reversed(list(stays[:-1])):
        at = min([k for k, led in enumerate(machine[2][late]) if led in goal])
        row = row + (machine[0][at],)
        late = machine[2][late][at]
    return row
