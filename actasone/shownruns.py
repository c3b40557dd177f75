"""Runs that are not as one, which show what is wrong with a rule, or with two lots."""

from actasone.counting import unlike_of
from actasone.extremes import extreme_of
from actasone.kinds import house_names, is_index
from actasone.machineparts import answer_at, come_to
from actasone.moving import walk_past
from actasone.needs import told_sets
from actasone.odds import fall_at_odds, is_pair, lot_of
from actasone.rulelooks import lacks_in, looks_of_house, moved_looks
from actasone.settings import filled_by
from actasone.trustparts import entry_of
from actasone.usable import need, need_age, need_book, need_rule


def run_of_rule(book, rule, *, age=0):
    need_rule(book, rule)
    need_age(book, age)
    return rule_run(book, rule, age)


def run_of_waking(book, waking):
    need_book(book)
    need(is_index(waking, book[4]), "waking")
    return waking_run(book, waking)


def run_of_odds(book, one, other):
    need_book(book)
    need(is_pair(book[1], one), "one")
    need(is_pair(book[1], other), "other")
    return odds_run(book, one, other)


def rule_run(book, rule, age):
    """A run in which the house of the rule answers without what another one has learned."""
    lacks = lacks_in(book, rule, age)
    if lacks == ():
        return None
    machine, trust, _, looking, _ = book
    house, looks, _, _, _ = looking[rule]
    look = moved_looks(machine, looks, age)[0]
    ahead, row = walk_past(machine, look, age)
    other, index, fall = told_sets(trust, house)[lacks[0]]
    honest = [name for name in house_names(trust) if name not in fall]
    at = answer_time(looking[rule])
    events = votes_for(honest, ahead, 0, at - 3) + learnings(trust, honest, ahead, at - 2)
    events = events + promisings(looking[rule], rule, honest, len(ahead), at - 2)
    # No sooner, as promises that do not last are over just now; no later, as the house answers
    # a moment behind this, when the letters are learned.
    events = events + votes_for(lacks[0], row, len(ahead), at - 1)
    lot = lot_of(trust, (other, index))
    events = events + learned_by(other, lot, row, len(ahead), at)
    number = answer_at(machine, come_to(machine, 0, ahead)[-1], look)
    events = events + asked_for(looking[rule], rule, look, len(events), len(ahead), number, at)
    return (fall, early_setting(book, looking[rule]), events)


def waking_run(book, waking):
    """A run in which the house of the rule wakes in a state that stays wrong, and answers."""
    machine, trust, _, looking, _ = book
    house, many = book[4][waking]
    walk = unlike_of(machine, looks_of_house(book, house), many)
    if walk is None:
        return None
    state, row, more, look = walk
    rule = [k for k, entry in enumerate(looking) if entry[0] == house and look in entry[1]][0]
    whole = row + more
    honest = house_names(trust)
    at = answer_time(looking[rule])
    events = (("sleep", at - 3, house), ("count", at - 3, house, waking, 0, state))
    events = events + votes_for(honest, whole, 0, at - 2) + learnings(trust, honest, whole, at - 1)
    events = events + promisings(looking[rule], rule, honest, len(whole), at - 1)
    number = answer_at(machine, come_to(machine, state, whole)[-1], look)
    events = events + asked_for(looking[rule], rule, look, len(events), len(whole), number, at)
    return ((), early_setting(book, looking[rule]), events)


def odds_run(book, one, other):
    """A run in which unlike letters are learned at one place, by the lots of both pairs."""
    machine, trust, clocks, _, _ = book
    fall = fall_at_odds(trust, one, other)
    if fall is None:
        return None
    events = ()
    for pair, letter in ((one, machine[0][0]), (other, machine[0][1])):
        honest = [name for name in lot_of(trust, pair) if name not in fall]
        events = events + votes_for(honest, (letter,), 0, 0)
    events = events + learned_by(one[0], lot_of(trust, one), machine[0][:1], 0, 1)
    if one[0] == other[0]:
        events = events + (("sleep", 1, one[0]), ("wake", 1, one[0]))
    events = events + learned_by(other[0], lot_of(trust, other), machine[0][1:2], 0, 1)
    return (fall, filled_by(clocks, house_names(trust), {}), events)


def answer_time(entry):
    """The last time at which the house of a rule answers, if its shift is 0."""
    return 0 if entry[3] == "any" else entry[3]


def early_setting(book, entry):
    """A setting in which the house of the rule has the shift 0, and promises are over early.

    Where no gap tells how early that can be, they are over a moment ahead of the answer.
    """
    low = min([answer_time(entry) - 1 - until for _, until in entry[4]], default=0)
    return extreme_of(book[2], house_names(book[1]), entry[0], low)


def votes_for(houses, row, place, time):
    """All these houses vote for the letters of the row, from this place on."""
    cast = [(house, place + k, letter) for house in houses for k, letter in enumerate(row)]
    return tuple(("vote", time, house, at, letter) for house, at, letter in cast)


def learned_by(house, lot, row, place, time):
    return tuple(("learn", time, house, lot, place + k, letter) for k, letter in enumerate(row))


def learnings(trust, houses, row, time):
    """All these houses learn the row from place 0 on."""
    events = ()
    for house in houses:
        events = events + learned_by(house, entry_of(trust, house)[1][0], row, 0, time)
    return events


def promisings(entry, rule, honest, number, time):
    """All promises of the rule are made, and this number is told for them; who lies only tells."""
    events = ()
    for house, _ in entry[4]:
        if house in honest:
            events = events + (("promise", time, house, rule),)
        events = events + (("says", time, house, rule, number),)
    return events


def asked_for(entry, rule, look, begun, number, told, time):
    """A look of the rule begins as the event begun, its lot tells the number, it is answered so."""
    tellings = tuple(("told", time, begun, teller, number) for teller in entry[2])
    return (("begin", time, entry[0], rule, look),) + tellings + (("answer", time, begun, told),)
