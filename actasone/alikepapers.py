"""Papers that tell whether two states are alike."""

from actasone.alikestates import classes_by, least_parting
from actasone.usable import need_two_states


def alike_paper(machine, state, other, looks):
    need_two_states(machine, state, other, looks)
    row = least_parting(machine, state, other, looks)
    if row is None:
        return ("alike", classes_by(machine, looks))
    return ("unlike", row)
