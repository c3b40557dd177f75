"""Trusts made of trusts."""

from actasone.kinds import ascends, house_names, is_name, is_set_of, is_tuple
from actasone.usable import need, need_house, need_trust


def with_lot(trust, house, lot):
    need_house(trust, house)
    need(is_set_of(lot, house_names(trust)) and lot != (), "lot")
    return tuple(
        (name, joined(lots, lot), fears) if name == house else (name, lots, fears)
        for name, lots, fears in trust
    )


def with_fear(trust, house, fear):
    need_house(trust, house)
    need(is_set_of(fear, house_names(trust)) and house not in fear, "fear")
    return tuple(
        (name, lots, joined(fears, fear)) if name == house else (name, lots, fears)
        for name, lots, fears in trust
    )


def joined(sets, one):
    """The set of these sets and this one."""
    return tuple(sorted(set(sets + (one,))))


def renamed_trust(trust, names):
    need_trust(trust)
    need(are_renamings(trust, names), "names")
    told = {house: name for house, name in names}
    late = {house: told.get(house, house) for house in house_names(trust)}
    need(len(set(list(late.values()))) == len(trust), "names")
    return tuple(
        sorted(
            [
                (late[house], renamed_sets(lots, late), renamed_sets(fears, late))
                for house, lots, fears in trust
            ]
        )
    )


def are_renamings(trust, thing):
    """Whether any value is a set of pairs of a house and a name, no house twice."""
    if not isinstance(thing, tuple):
        return False
    for pair in thing:
        if not is_tuple(pair, 2) or pair[0] not in house_names(trust) or not is_name(pair[1]):
            return False
    return ascends([pair[0] for pair in thing])


def renamed_sets(sets, late):
    return tuple(sorted([tuple(sorted([late[house] for house in one])) for one in sets]))
