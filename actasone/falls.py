"""Who is safe in which fall."""

from actasone.kinds import house_names, is_set_of
from actasone.trustparts import entry_of
from actasone.usable import need, need_house, need_trust


def is_safe(trust, house, fall):
    need_house(trust, house)
    need(is_set_of(fall, house_names(trust)), "fall")
    return is_safe_entry(entry_of(trust, house), fall)


def safe_houses(trust, fall):
    need_trust(trust)
    need(is_set_of(fall, house_names(trust)), "fall")
    return tuple(entry[0] for entry in trust if is_safe_entry(entry, fall))


def greatest_falls(trust, house):
    need_house(trust, house)
    return greatest_of(entry_of(trust, house)[2])


def common_falls(trust, house, other):
    need_house(trust, house)
    need(other in house_names(trust), "other")
    return falls_of_both(trust, house, other)


def falls_of_both(trust, house, other):
    fears = entry_of(trust, house)[2]
    late = entry_of(trust, other)[2]
    # A common part is without both houses, as neither one fears itself.
    return greatest_of(sorted({common_part(fear, beside) for fear in fears for beside in late}))


def is_safe_entry(entry, fall):
    house, _, fears = entry
    return house not in fall and any([lies_within(fall, fear) for fear in fears])


def is_fall_of_both(trust, house, other, thing):
    """Whether any value is a fall in which both houses are safe."""
    if not is_set_of(thing, house_names(trust)):
        return False
    return is_safe_entry(entry_of(trust, house), thing) and is_safe_entry(entry_of(trust, other), thing)


def lies_within(one, other):
    return all([house in other for house in one])


def common_part(one, other):
    return tuple(house for house in one if house in other)


def left_of(one, other):
    """The one set without the other."""
    return tuple(house for house in one if house not in other)


def greatest_of(sets):
    """Those of the sets that lie in no other one of them."""
    return tuple(one for one in sets if not any([one != other and lies_within(one, other) for other in sets]))


def least_of(sets):
    """The set of those of the sets that have no other one of them within them."""
    unlike = sorted(set(sets))
    return tuple(one for one in unlike if not any([one != other and lies_within(other, one) for other in unlike]))
