"""Whether all runs of a book are as one, and what is wrong where they are not."""

from actasone.falls import common_part, is_safe_entry, left_of, lies_within
from actasone.kinds import house_names, is_index, is_set_of, is_tuple
from actasone.moving import least_age_of
from actasone.odds import is_pair, lot_of, odds_in, pairs_of
from actasone.rulelooks import caught_by, is_right_waking, lacks_in, moved_looks
from actasone.shownruns import odds_run, rule_run, waking_run
from actasone.usable import need, need_age, need_book


def is_as_one(book, *, age=0):
    need_book(book)
    need_age(book, age)
    return faults_told(book, age) == []


def faults_of(book, *, age=0):
    need_book(book)
    need_age(book, age)
    return tuple(sorted(faults_told(book, age)))


def first_fault(book, *, age=0):
    need_book(book)
    need_age(book, age)
    faults = faults_told(book, age)
    return faults[0] if faults else None


def faults_in(book, fall):
    need_book(book)
    need(is_set_of(fall, house_names(book[1])), "fall")
    _, trust, _, looking, waking = book
    safe = [entry[0] for entry in trust if is_safe_entry(entry, fall)]
    pairs = [pair for pair in pairs_of(trust) if pair[0] in safe]
    both = [(one, other) for k, one in enumerate(pairs) for other in pairs[k:]]
    faults = [("odds", one, other) for one, other in both if are_at_odds_in(trust, fall, one, other)]
    for k, entry in enumerate(looking):
        if entry[0] in safe and is_wrong_in(book, fall, safe, k):
            faults.append(("looking", k))
    for k, entry in enumerate(waking):
        if entry[0] in safe and not is_right_waking(book, k):
            faults.append(("waking", k))
    return tuple(sorted(faults))


def fault_run(book, fault, *, age=0):
    need_book(book)
    need(is_fault(book, fault), "fault")
    need_age(book, age)
    run = run_by_fault(book, fault, age)
    need(run is not None, "fault")
    return run


def least_age(book):
    need_book(book)
    need(book[4] == (), "book")
    if odds_in(book[1]) != ():
        return None
    wrong = [book[3][k][1] for k in range(len(book[3])) if lacks_in(book, k, 0) != ()]
    ages = [least_age_of(book[0], look) for looks in wrong for look in looks]
    return None if None in ages else max(ages, default=0)


def faults_told(book, age):
    """All faults, as (W) tells them: lots at odds, then rules of looking, then rules of waking."""
    faults = [("odds", one, other) for one, other in odds_in(book[1])]
    faults.extend([("looking", k) for k in range(len(book[3])) if lacks_in(book, k, age) != ()])
    faults.extend([("waking", k) for k in range(len(book[4])) if not is_right_waking(book, k)])
    return faults


def are_at_odds_in(trust, fall, one, other):
    """Whether what the lots of two pairs of safe houses have in common lies within the fall."""
    return lies_within(common_part(lot_of(trust, one), lot_of(trust, other)), fall)


def is_wrong_in(book, fall, safe, rule):
    """Whether a safe house can miss, by the rule, what another safe one learned in this fall."""
    house, looks, _, _, _ = book[3][rule]
    if moved_looks(book[0], looks, 0) == ():
        return False
    caught = caught_by(book, rule)
    sets = [left_of(lot, fall) for other, lots, _ in book[1] for lot in lots if other in safe and other != house]
    return any([common_part(part, caught) == () for part in sets])


def is_fault(book, thing):
    """Whether any value is a fault by form."""
    if is_tuple(thing, 3) and thing[0] == "odds":
        return is_pair(book[1], thing[1]) and is_pair(book[1], thing[2]) and thing[1] <= thing[2]
    return is_rule_fault(book, thing)


def is_rule_fault(book, thing):
    """Whether any value names a rule of looking, or of waking, as a fault does."""
    if not is_tuple(thing, 2):
        return False
    if thing[0] == "looking":
        return is_index(thing[1], book[3])
    return thing[0] == "waking" and is_index(thing[1], book[4])


def run_by_fault(book, fault, age):
    """The run that shows what the fault says, None if the book has not this fault."""
    if fault[0] == "odds":
        return odds_run(book, fault[1], fault[2])
    return rule_run(book, fault[1], age) if fault[0] == "looking" else waking_run(book, fault[1])
