"""Clock tables made of bounds, and the ways by which their gaps come."""

from actasone.errors import NoTable
from actasone.kinds import is_name
from actasone.usable import need, need_bounds, need_clocks


def table_of(houses, bounds):
    need_bounds(houses, bounds)
    return table_by(bounds, least_ways(houses, bounds))


def gap_of(clocks, one, other):
    need_clocks(clocks)
    need(is_name(one), "one")
    need(is_name(other), "other")
    return gap_between(clocks, one, other)


def way_of(houses, bounds, one, other):
    need_bounds(houses, bounds)
    need(one in houses, "one")
    need(other in houses, "other")
    ways = least_ways(houses, bounds)
    return (one,) if one == other else ways.get((one, other), None)


def gap_between(clocks, one, other):
    if one == other:
        return 0
    gaps = [gap for begin, end, gap in clocks if begin == one and end == other]
    return gaps[0] if gaps else "any"


def least_gaps(bounds):
    """For each two houses with a bound the least gap of their bounds."""
    gaps = {}
    for begin, end, gap in bounds:
        gaps[(begin, end)] = min(gap, gaps.get((begin, end), gap))
    return gaps


def sum_of(gaps, way):
    return sum([gaps[step] for step in zip(way, way[1:])])


def table_by(bounds, ways):
    gaps = least_gaps(bounds)
    return tuple(sorted([(begin, end, sum_of(gaps, way)) for (begin, end), way in ways.items()]))


def least_ways(houses, bounds):
    """For each two unlike houses with a way one that has the least sum.

    House by house, ways through it are let where they are shorter; NoTable is raised at the first
    way there and back that is below nought.
    """
    gaps = least_gaps(bounds)
    ways = {pair: pair for pair in gaps}
    for middle in houses:
        ways = ways_through(gaps, houses, ways, middle)
    return ways


def ways_through(gaps, houses, ways, middle):
    """These ways, or ways through the middle where those are shorter."""
    ahead = [house for house in houses if (house, middle) in ways]
    behind = [house for house in houses if (middle, house) in ways]
    late = {}
    for pair in ways:
        late[pair] = ways[pair]
    for begin in ahead:
        for end in behind:
            way = ways[(begin, middle)] + ways[(middle, end)][1:]
            total = sum_of(gaps, way)
            if begin == end and total < 0:
                # No house stands here twice: this would be two rings, one of them below nought,
                # and such a one is found as soon as its second last house has been the middle.
                raise NoTable(turned_ring(way[1:]), total)
            if begin != end and ((begin, end) not in ways or total < sum_of(gaps, ways[(begin, end)])):
                late[(begin, end)] = way
    return late


def turned_ring(ring):
    """The ring, beginning with the least of its houses."""
    first = ring.index(min(ring))
    return ring[first:] + ring[:first]
