"""Clock tables made of clock tables."""

from actasone.boundtables import least_ways, table_by
from actasone.kinds import is_gap, is_name
from actasone.usable import need, need_clocks


def with_bound(clocks, bound):
    need_clocks(clocks)
    need(is_gap(bound), "bound")
    bounds = clocks + (bound,)
    houses = tuple(sorted({house for triple in bounds for house in triple[:2]}))
    return table_by(bounds, least_ways(houses, bounds))


def without_house(clocks, house):
    need_clocks(clocks)
    need(is_name(house), "house")
    return tuple(triple for triple in clocks if house not in triple[:2])


def turned_clocks(clocks):
    need_clocks(clocks)
    return tuple(sorted([(end, begin, gap) for begin, end, gap in clocks]))
