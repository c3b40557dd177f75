"""Papers that tell the longest end of a rule of looking."""

from actasone.longestends import least_end, longest_ends, served_ends
from actasone.usable import need_sets


def longest_paper(clocks, house, sets, lot, promises):
    need_sets(clocks, house, sets, lot, promises)
    ends = longest_ends(clocks, house, sets, lot, promises)
    end = least_end(ends)
    if end == "any":
        return ("any",)
    if end is None:
        return ("never", ends.index(None))
    served = served_ends(clocks, house, promises)
    catching = lot + tuple(name for name, late in served if late is not None and late >= end)
    keepers = tuple([name for name in catching if name in part][0] for part in sets)
    return ("longest", end, keepers, ends.index(end))
