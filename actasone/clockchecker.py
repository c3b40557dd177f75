"""Whether a paper tells rightly the clock table of bounds, or that there is none."""

from actasone.boundtables import gap_between, least_gaps, sum_of
from actasone.kinds import is_clocks, is_tuple
from actasone.usable import need_bounds, need_right


def lets_table(houses, bounds, thing):
    need_bounds(houses, bounds)
    gaps = least_gaps(bounds)
    if is_tuple(thing, 3) and thing[0] == "table":
        need_right(isinstance(thing[1], tuple) and isinstance(thing[2], tuple), "shape", -1)
        check_table(gaps, bounds, thing[1], thing[2])
        return True
    need_right(is_tuple(thing, 2) and thing[0] == "none" and isinstance(thing[1], tuple), "shape", -1)
    ring = thing[1]
    # No bound leads from a house to itself, so that a ring of one house is none.
    need_right(is_way(gaps, ring) and (ring[-1], ring[0]) in gaps, "ring", -1)
    need_right(sum_of(gaps, ring + ring[:1]) < 0, "sum", -1)
    return False


def check_table(gaps, bounds, clocks, ways):
    need_right(is_clocks(clocks), "clocks", -1)
    need_right(len(ways) == len(clocks), "ways", -1)
    for k, (begin, end, gap) in enumerate(clocks):
        right = is_way(gaps, ways[k]) and ways[k][0] == begin and ways[k][-1] == end
        need_right(right, "way", k)
        need_right(sum_of(gaps, ways[k]) == gap, "sum", k)
    for k, (begin, end, gap) in enumerate(bounds):
        whole = gap_between(clocks, begin, end)
        need_right(whole != "any" and whole <= gap, "bound", k)


def is_way(gaps, thing):
    """Whether any value is a way; one of a single house may be any name."""
    if not isinstance(thing, tuple) or thing == () or not all([isinstance(house, str) for house in thing]):
        return False
    return len(set(thing)) == len(thing) and all([step in gaps for step in zip(thing, thing[1:])])
