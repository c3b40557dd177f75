"""How far clocks can be apart at most, and what this makes sure."""

from actasone.boundtables import gap_between
from actasone.kinds import is_integer, is_name
from actasone.settings import filled_by
from actasone.usable import need, need_clocks, need_clocks_of


def extreme_setting(clocks, houses, house, low):
    need_clocks_of(clocks, houses)
    need(house in houses, "house")
    need(is_integer(low), "low")
    return extreme_of(clocks, houses, house, low)


def extreme_of(clocks, houses, house, low):
    """A setting in which the clocks of the others are as early as they can be beside this one."""
    gaps = {name: gap_between(clocks, name, house) for name in houses}
    shifts = {name: -gaps[name] for name in houses if gaps[name] != "any"}
    # No gap from one of the others to one of these is bound. So the others, in any setting that
    # fits, can all go down together until no gap from one of these is too great.
    far = [name for name in houses if gaps[name] == "any"]
    free = dict(zip(houses, filled_by(clocks, houses, {})))
    rooms = [shifts[begin] + gap - free[end] for begin, end, gap in clocks if begin in shifts and end in far]
    down = min([low - free[name] for name in far] + rooms, default=0)
    return tuple(shifts[name] if name in shifts else free[name] + down for name in houses)


def surely_before(clocks, house, first, other, last):
    need_clocks(clocks)
    need(is_name(house), "house")
    need(is_integer(first), "first")
    need(is_name(other), "other")
    need(is_integer(last), "last")
    gap = gap_between(clocks, other, house)
    return gap != "any" and gap <= last - first


def least_until(clocks, house, end, other):
    need_clocks(clocks)
    need(is_name(house), "house")
    need(is_integer(end), "end")
    need(is_name(other), "other")
    gap = gap_between(clocks, other, house)
    return None if gap == "any" else end + gap
