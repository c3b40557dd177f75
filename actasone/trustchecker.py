"""Whether a paper tells rightly which lots are at odds, or what a house needs."""

from actasone.errors import InvalidPaper
from actasone.falls import common_part, falls_of_both, is_fall_of_both, left_of, lies_within
from actasone.kinds import is_tuple
from actasone.odds import is_pair, lot_of, odds_in, pairs_of
from actasone.usable import need_house, need_right, need_trust


def lets_odds(trust, thing):
    need_trust(trust)
    tells_odds = is_tuple(thing, 4) and thing[0] == "odds"
    need_right(tells_odds or (is_tuple(thing, 1) and thing[0] == "calm"), "shape", -1)
    if tells_odds:
        need_right(are_at_odds(trust, thing[1], thing[2], thing[3]), "odds", -1)
        return True
    odds = odds_in(trust)
    if odds != ():
        raise InvalidPaper("calm", odds[0])
    return False


def are_at_odds(trust, one, other, fall):
    """Whether any values are two pairs and a fall by which they are at odds."""
    if not is_pair(trust, one) or not is_pair(trust, other):
        return False
    common = common_part(lot_of(trust, one), lot_of(trust, other))
    return is_fall_of_both(trust, one[0], other[0], fall) and lies_within(common, fall)


def lets_needs(trust, house, thing):
    need_house(trust, house)
    need_right(isinstance(thing, tuple), "shape", -1)
    for k, part in enumerate(thing):
        need_right(tells_need(trust, house, part), "need", k)
        need_right(k == 0 or part[0] > thing[k - 1][0], "need", k)
    told = [part[0] for part in thing]
    for k, one in enumerate(told):
        within = [other for other in told if other != one and lies_within(other, one)]
        need_right(within == [], "least", k)
    for pair in pairs_of(trust):
        need_right(pair[0] == house or has_need(trust, house, pair, told), "lacks", pair)
    return len(thing)


def tells_need(trust, house, thing):
    """Whether any value is a lot of another house without a fall, and what tells this."""
    if not is_tuple(thing, 4) or not is_pair(trust, thing[1:3]) or thing[1] == house:
        return False
    if not is_fall_of_both(trust, house, thing[1], thing[3]):
        return False
    return thing[0] == left_of(lot_of(trust, thing[1:3]), thing[3])


def has_need(trust, house, pair, told):
    """Whether this lot, without each fall, has one of the told needs within it."""
    for fall in falls_of_both(trust, house, pair[0]):
        left = left_of(lot_of(trust, pair), fall)
        if not any([lies_within(part, left) for part in told]):
            return False
    return True
