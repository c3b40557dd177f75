"""Papers that tell the clock table of bounds, or that there is none."""

from actasone.boundtables import least_ways, table_by
from actasone.errors import NoTable
from actasone.usable import need_bounds


def table_paper(houses, bounds):
    need_bounds(houses, bounds)
    try:
        ways = least_ways(houses, bounds)
    except NoTable as error:
        return ("none", error.ring)
    table = table_by(bounds, ways)
    return ("table", table, tuple(ways[(begin, end)] for begin, end, _ in table))
