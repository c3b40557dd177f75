"""How many parts a machine, a trust, a clock table or a book has, and why a value is none."""

from actasone.errors import InvalidPaper
from actasone.kinds import clocks_fault, house_names, machine_fault, parts_fault, trust_fault
from actasone.usable import need_trust


def lets_machine(thing):
    refuse(machine_fault(thing))
    return len(thing[2])


def lets_trust(thing):
    refuse(trust_fault(thing))
    return len(thing)


def lets_clocks(trust, thing):
    need_trust(trust)
    refuse(clocks_fault(thing, house_names(trust)))
    return len(thing)


def lets_parts(thing):
    refuse(parts_fault(thing))
    return len(thing[3]) + len(thing[4])


def refuse(fault):
    """Raises the error of a fault, and nothing for None."""
    if fault is not None:
        raise InvalidPaper(fault[0], fault[1])
