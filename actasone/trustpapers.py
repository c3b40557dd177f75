"""Papers that tell which lots are at odds, and what a house needs."""

from actasone.falls import least_of
from actasone.needs import told_sets
from actasone.odds import fall_at_odds, odds_in
from actasone.usable import need_house, need_trust


def odds_paper(trust):
    need_trust(trust)
    odds = odds_in(trust)
    if odds == ():
        return ("calm",)
    one, other = odds[0]
    return ("odds", one, other, fall_at_odds(trust, one, other))


def needs_paper(trust, house):
    need_house(trust, house)
    told = told_sets(trust, house)
    return tuple((part,) + told[part] for part in least_of(list(told)))
