"""Whether two trusts let the same lots be asked."""

from actasone.falls import left_of, lies_within
from actasone.kinds import house_names, is_trust
from actasone.needs import needs_in
from actasone.usable import need, need_trust


def trusts_alike(trust, other):
    need_two_trusts(trust, other)
    return all([needs_in(trust, house) == needs_in(other, house) for house in house_names(trust)])


def parting_lot(trust, other):
    need_two_trusts(trust, other)
    houses = house_names(trust)
    for house in houses:
        one = needs_in(trust, house)
        two = needs_in(other, house)
        lone = lone_needs(one, two) + lone_needs(two, one)
        if lone:
            # All houses but those of this need miss it, and meet all of the other trust.
            return (house, left_of(houses, lone[0]))
    return None


def need_two_trusts(trust, other):
    need_trust(trust)
    need(is_trust(other) and house_names(other) == house_names(trust), "other")


def lone_needs(needs, others):
    """Those of the needs that have none of the others within them."""
    return [part for part in needs if not any([lies_within(late, part) for late in others])]
