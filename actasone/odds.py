"""Lots by which two houses can learn unlike letters at one place."""

from actasone.falls import common_part, falls_of_both, lies_within
from actasone.kinds import ascends, house_names, is_index, is_tuple
from actasone.trustparts import entry_of
from actasone.usable import need, need_trust


def odds_fall(trust, one, other):
    need_trust(trust)
    need(is_pair(trust, one), "one")
    need(is_pair(trust, other), "other")
    return fall_at_odds(trust, one, other)


def all_odds(trust):
    need_trust(trust)
    return odds_in(trust)


def without_pairs(trust, pairs):
    need_trust(trust)
    need(are_pairs(trust, pairs) and leaves_lots(trust, pairs), "pairs")
    return trust_without(trust, pairs)


def least_dropped(trust):
    need_trust(trust)
    return least_dropped_in(trust)


def trust_without(trust, pairs):
    return tuple((house, lots_without(house, lots, pairs), fears) for house, lots, fears in trust)


def least_dropped_in(trust):
    """A least set of pairs without which none are at odds, None without one."""
    odds = odds_in(trust)
    # A pair that is at odds with itself goes in any case.
    alone = tuple(one for one, other in odds if one == other)
    return fewest_dropped(trust, odds, alone, len(pairs_of(trust)))


def is_pair(trust, thing):
    """Whether any value is a pair of a house and the index of one of its lots."""
    if not is_tuple(thing, 2) or thing[0] not in house_names(trust):
        return False
    return is_index(thing[1], entry_of(trust, thing[0])[1])


def are_pairs(trust, thing):
    """Whether any value is a set of such pairs."""
    return isinstance(thing, tuple) and all([is_pair(trust, pair) for pair in thing]) and ascends(thing)


def pairs_of(trust):
    return tuple((house, index) for house, lots, _ in trust for index in range(len(lots)))


def lot_of(trust, pair):
    return entry_of(trust, pair[0])[1][pair[1]]


def fall_at_odds(trust, one, other):
    common = common_part(lot_of(trust, one), lot_of(trust, other))
    for fall in falls_of_both(trust, one[0], other[0]):
        if lies_within(common, fall):
            return fall
    return None


def odds_in(trust):
    """All two pairs at odds, the lesser one first, ascending."""
    pairs = pairs_of(trust)
    both = [(one, other) for k, one in enumerate(pairs) for other in pairs[k:]]
    return tuple((one, other) for one, other in both if fall_at_odds(trust, one, other) is not None)


def lots_without(house, lots, pairs):
    return tuple(lot for index, lot in enumerate(lots) if (house, index) not in pairs)


def leaves_lots(trust, pairs):
    """Whether each house has a lot left without these pairs."""
    return all([lots_without(house, lots, pairs) != () for house, lots, _ in trust])


def fewest_dropped(trust, odds, dropped, most):
    """A least set of pairs with these dropped ones without which nothing of odds is left.

    None if it needs more than most, or leaves a house without a lot. Either the pair goes that
    is at odds with the most others, or all these others go.
    """
    if len(dropped) > most or not leaves_lots(trust, dropped):
        return None
    left = [(one, other) for one, other in odds if one not in dropped and other not in dropped]
    if left == []:
        return tuple(sorted(dropped))
    busy = busiest(left)
    beside = tuple(two if one == busy else one for one, two in left if busy in (one, two))
    best = None
    for more in ((busy,), beside):
        found = fewest_dropped(trust, left, dropped + more, most)
        if found is not None:
            best = found
            most = len(found) - 1
    return best


def busiest(odds):
    """The pair that is there most often."""
    often = {}
    for both in odds:
        for pair in both:
            often[pair] = often.get(pair, 0) + 1
    return max([(many, pair) for pair, many in often.items()])[1]
