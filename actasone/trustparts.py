"""The houses of a trust, their lots and their fears."""

from actasone.kinds import house_names
from actasone.usable import need_house, need_trust


def houses_of(trust):
    need_trust(trust)
    return house_names(trust)


def lots_at(trust, house):
    need_house(trust, house)
    return entry_of(trust, house)[1]


def fears_at(trust, house):
    need_house(trust, house)
    return entry_of(trust, house)[2]


def entry_of(trust, house):
    """The triple of the house."""
    return trust[house_names(trust).index(house)]
