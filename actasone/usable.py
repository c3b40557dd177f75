"""What parameters, and papers, have to be: the error that tells the first thing that is not so."""

from actasone.errors import InvalidPaper, NotUsable
from actasone.kinds import (
    are_names,
    are_promises,
    house_names,
    is_age_of,
    is_book,
    is_bound_of,
    is_clocks,
    is_index,
    is_machine,
    is_name,
    is_set_of,
    is_state,
    is_trust,
)


def need(holds, word):
    """Refuses the parameter with this name, unless it holds."""
    if not holds:
        raise NotUsable(word, -1)


def need_right(holds, word, at):
    """Refuses a paper by this word and place, unless it holds."""
    if not holds:
        raise InvalidPaper(word, at)


def need_machine(machine):
    need(is_machine(machine), "machine")


def need_state(machine, state):
    need_machine(machine)
    need(is_state(machine, state), "state")


def need_look(machine, look):
    need_machine(machine)
    need(look in machine[1], "look")


def need_looks(machine, looks):
    need_machine(machine)
    need(is_set_of(looks, machine[1]), "looks")


def need_two_states(machine, state, other, looks):
    """Two states, and looks by which they may be alike."""
    need_state(machine, state)
    need(is_state(machine, other), "other")
    need(is_set_of(looks, machine[1]), "looks")


def need_trust(trust):
    need(is_trust(trust), "trust")


def need_house(trust, house):
    need_trust(trust)
    need(house in house_names(trust), "house")


def need_lot(trust, house, lot):
    need_house(trust, house)
    need(is_set_of(lot, house_names(trust)), "lot")


def need_book(book):
    need(is_book(book), "book")


def need_rule(book, rule):
    """An index into the rules of looking."""
    need_book(book)
    need(is_index(rule, book[3]), "rule")


def need_age(book, age):
    need(is_age_of(book, age), "age")


def need_bounds(houses, bounds):
    need(are_names(houses, 0), "houses")
    right = isinstance(bounds, tuple) and all([is_bound_of(bound, houses) for bound in bounds])
    need(right, "bounds")


def need_clocks(clocks):
    need(is_clocks(clocks), "clocks")


def need_clocks_of(clocks, houses):
    need_clocks(clocks)
    need(are_names(houses, 0), "houses")
    need(all([is_bound_of(triple, houses) for triple in clocks]), "houses")


def need_sets(clocks, house, sets, lot, promises):
    """What the longest end is asked for: of any names."""
    need_clocks(clocks)
    need(is_name(house), "house")
    need(isinstance(sets, tuple) and all([are_names(part, 0) for part in sets]), "sets")
    need(are_names(lot, 0), "lot")
    need(are_promises(promises), "promises")
