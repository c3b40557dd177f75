"""Papers that tell whether a book is as one."""

from actasone.counting import partings_up_to
from actasone.falls import common_part, falls_of_both, left_of
from actasone.needs import needs_in
from actasone.odds import lot_of, pairs_of
from actasone.reaching import least_rows
from actasone.rulelooks import caught_by, looks_of_house, moved_looks
from actasone.usable import need_book
from actasone.whole import faults_told, run_by_fault


def book_paper(book):
    need_book(book)
    faults = faults_told(book, 0)
    if faults != []:
        return ("run", run_by_fault(book, faults[0], 0))
    kept = tuple(kept_for(book[1], one, other) for one, other in both_pairs(book[1]))
    still = tuple(still_for(book[0], look) for look in book[0][1])
    met = tuple(met_for(book, rule, still) for rule in range(len(book[3])))
    return ("one", kept, still, met, tuple(partings_for(book, entry) for entry in book[4]))


def both_pairs(trust):
    """All two pairs of a house and the index of one of its lots, the lesser one first."""
    pairs = pairs_of(trust)
    return [(one, other) for k, one in enumerate(pairs) for other in pairs[k:]]


def kept_for(trust, one, other):
    """What the lots have in common out of each fall."""
    common = common_part(lot_of(trust, one), lot_of(trust, other))
    return tuple(left_of(common, fall)[0] for fall in falls_of_both(trust, one[0], other[0]))


def still_for(machine, look):
    """Which states are reachable, if they answer the look alike."""
    if moved_looks(machine, (look,), 0) != ():
        return ()
    found = least_rows(machine, 0)
    return tuple(state in found for state in range(len(machine[2])))


def are_still(machine, looks, still):
    """Whether there is something told for each of the looks that keeps it still."""
    return all([still[machine[1].index(look)] != () for look in looks])


def met_for(book, rule, still):
    house, looks, _, _, _ = book[3][rule]
    if are_still(book[0], looks, still):
        return ()
    caught = caught_by(book, rule)
    return tuple(common_part(part, caught)[0] for part in needs_in(book[1], house))


def partings_for(book, entry):
    house, many = entry
    looks = looks_of_house(book, house)
    return () if looks == () else tuple(partings_up_to(book[0], looks, many))
