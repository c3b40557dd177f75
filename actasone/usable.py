"""What parameters, and papers, have to be: the error that tells the first thing that is not so."""

from actasone.errors import InvalidPaper, NotUsable
from actasone.kinds import house_names, is_machine, is_set_of, is_state, is_trust


def need(holds, word):
    """Refuses the parameter with this name, unless it holds."""
    if not holds:
        raise NotUsable(word, -1)


def need_right(holds, word, at):
    """Refuses a paper by this word and place, unless it holds."""
    if not holds:
        raise InvalidPaper(word, at)


def need_machine(machine):
    need(is_machine(machine), "machine")


def need_state(machine, state):
    need_machine(machine)
    need(is_state(machine, state), "state")


def need_look(machine, look):
    need_machine(machine)
    need(look in machine[1], "look")


def need_looks(machine, looks):
    need_machine(machine)
    need(is_set_of(looks, machine[1]), "looks")


def need_two_states(machine, state, other, looks):
    """Two states, and looks by which they may be alike."""
    need_state(machine, state)
    need(is_state(machine, other), "other")
    need(is_set_of(looks, machine[1]), "looks")


def need_trust(trust):
    need(is_trust(trust), "trust")


def need_house(trust, house):
    need_trust(trust)
    need(house in house_names(trust), "house")
