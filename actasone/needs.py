"""What a house has to ask: the needs that its lot has to meet."""

from actasone.falls import common_part, falls_of_both, least_of, left_of
from actasone.usable import need_house, need_lot


def needs_of(trust, house):
    need_house(trust, house)
    return needs_in(trust, house)


def meets_needs(trust, house, lot):
    need_lot(trust, house, lot)
    return missed_needs(trust, house, lot) == ()


def first_missed(trust, house, lot):
    need_lot(trust, house, lot)
    missed = missed_needs(trust, house, lot)
    return missed[0] if missed else None


def least_lots(trust, house):
    need_house(trust, house)
    return least_lots_in(trust, house)


def fewest_lot(trust, house):
    need_house(trust, house)
    return fewest_in(trust, house)


def told_sets(trust, house):
    """All sets of which the least ones are the needs, each with a house, the index of its lot
    and a fall that tell it."""
    told = {}
    for other, lots, _ in trust:
        falls = falls_of_both(trust, house, other) if other != house else ()
        for index, lot in enumerate(lots):
            for fall in falls:
                told[left_of(lot, fall)] = (other, index, fall)
    return told


def needs_in(trust, house):
    return least_of(list(told_sets(trust, house)))


def missed_needs(trust, house, lot):
    return tuple(part for part in needs_in(trust, house) if common_part(part, lot) == ())


def fewest_in(trust, house):
    """One of the least lots with the fewest houses, None if there are none."""
    return min(least_lots_in(trust, house), key=len, default=None)


def least_lots_in(trust, house):
    lots = ((),)
    for part in needs_in(trust, house):
        met = [lot for lot in lots if common_part(lot, part) != ()]
        unmet = [lot for lot in lots if common_part(lot, part) == ()]
        lots = least_of(met + [tuple(sorted(lot + (more,))) for lot in unmet for more in part])
    return lots
