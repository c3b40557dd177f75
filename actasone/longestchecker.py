"""Whether a paper tells rightly the longest end of a rule of looking."""

from actasone.errors import InvalidPaper
from actasone.falls import common_part
from actasone.kinds import is_integer, is_number, is_tuple
from actasone.longestends import served_ends
from actasone.usable import need_right, need_sets


def lets_longest(clocks, house, sets, lot, promises, thing):
    need_sets(clocks, house, sets, lot, promises)
    need_right(is_longest(thing) or is_never(thing) or is_any(thing), "shape", -1)
    if thing[0] == "any":
        for k, part in enumerate(sets):
            need_right(common_part(part, lot) != (), "set", k)
        return "any"
    served = served_ends(clocks, house, promises)
    if thing[0] == "longest":
        check_keepers(sets, lot, served, thing[1], thing[2])
    check_last(sets, lot, served, thing)
    return thing[1] if thing[0] == "longest" else None


def is_longest(thing):
    if not is_tuple(thing, 4) or thing[0] != "longest":
        return False
    return is_integer(thing[1]) and isinstance(thing[2], tuple) and is_number(thing[3])


def is_never(thing):
    return is_tuple(thing, 2) and thing[0] == "never" and is_number(thing[1])


def is_any(thing):
    return is_tuple(thing, 1) and thing[0] == "any"


def check_keepers(sets, lot, served, end, keepers):
    """Each set has a house that is in lot, or lasts with this end."""
    need_right(len(keepers) == len(sets), "many", -1)
    catching = lot + tuple(name for name, late in served if late is not None and late >= end)
    for k, part in enumerate(sets):
        need_right(keepers[k] in part and keepers[k] in catching, "keeper", k)


def check_last(sets, lot, served, thing):
    """The set with the told index has no house of lot, and none that lasts with a greater end."""
    index = thing[-1]
    need_right(index < len(sets), "index", -1)
    part = sets[index]
    need_right(common_part(part, lot) == (), "lot", -1)
    for j, (name, late) in enumerate(served):
        if name in part and late is not None and (thing[0] == "never" or late > thing[1]):
            raise InvalidPaper("promise", j)
