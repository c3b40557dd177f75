"""Settings of the clocks of houses that fit a clock table."""

from actasone.kinds import are_integers, are_promises
from actasone.usable import need, need_clocks_of


def fits(clocks, houses, setting):
    need_clocks_of(clocks, houses)
    need(are_integers(setting, len(houses)), "setting")
    return keeps(clocks, dict(zip(houses, setting)))


def any_setting(clocks, houses):
    need_clocks_of(clocks, houses)
    return filled_by(clocks, houses, {})


def filled_setting(clocks, houses, shifts):
    need_clocks_of(clocks, houses)
    right = are_promises(shifts) and all([house in houses for house, _ in shifts])
    need(right, "shifts")
    known = dict(shifts)
    return filled_by(clocks, houses, known) if keeps(clocks, known) else None


def keeps(clocks, shifts):
    """Whether the gaps between those houses that have shifts here are kept."""
    told = [triple for triple in clocks if triple[0] in shifts and triple[1] in shifts]
    return all([shifts[end] - shifts[begin] <= gap for begin, end, gap in told])


def filled_by(clocks, houses, shifts):
    """A setting that fits, with these shifts, which keep the gaps between them.

    House by house there is a shift left, as no gap is greater than two by way of a third house.
    """
    known = dict(shifts)
    for house in houses:
        if house not in known:
            known[house] = shift_beside(clocks, house, known)
    return tuple(known[house] for house in houses)


def shift_beside(clocks, house, shifts):
    """A shift of the house that keeps its gaps from and to those that have shifts."""
    highs = [shifts[begin] + gap for begin, end, gap in clocks if end == house and begin in shifts]
    lows = [shifts[end] - gap for begin, end, gap in clocks if begin == house and end in shifts]
    return min(highs) if highs else max(lows, default=0)
