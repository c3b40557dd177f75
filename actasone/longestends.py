"""The longest end with which a rule of looking catches what it has to."""

from actasone.boundtables import gap_between
from actasone.falls import common_part
from actasone.usable import need_sets


def longest_for(clocks, house, sets, lot, promises):
    need_sets(clocks, house, sets, lot, promises)
    return least_end(longest_ends(clocks, house, sets, lot, promises))


def longest_ends(clocks, house, sets, lot, promises):
    """For each of the sets the longest end with which it is caught: any, an integer, or None."""
    served = served_ends(clocks, house, promises)
    return [longest_end_of(part, lot, served) for part in sets]


def served_ends(clocks, house, promises):
    """For each promise its house, and the greatest end with which it lasts, None if with none."""
    gaps = [(name, until, gap_between(clocks, name, house)) for name, until in promises]
    return [(name, None if gap == "any" else until - gap) for name, until, gap in gaps]


def longest_end_of(part, lot, served):
    if common_part(part, lot) != ():
        return "any"
    return max([end for name, end in served if name in part and end is not None], default=None)


def least_end(ends):
    if None in ends:
        return None
    return min([end for end in ends if end != "any"], default="any")
