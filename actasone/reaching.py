"""Which states are reachable, and by which rows of letters."""

from actasone.usable import need_machine, need_state


def reachable_states(machine):
    need_machine(machine)
    return tuple(sorted(least_rows(machine, 0)))


def row_to(machine, state):
    need_state(machine, state)
    return least_rows(machine, 0).get(state, None)


def least_rows(machine, begin):
    """For each state that rows make of this one the least such row, the rows ascending."""
    rows = {begin: ()}
    order = [begin]
    k = 0
    while k < len(order):
        state = order[k]
        for letter, late in zip(machine[0], machine[2][state]):
            if late not in rows:
                rows[late] = rows[state] + (letter,)
                order.append(late)
        k = k + 1
    return rows
