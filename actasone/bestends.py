"""The longest end, and the least untils, with which a rule of looking is right."""

from actasone.boundtables import gap_between
from actasone.falls import common_part
from actasone.longestends import least_end, longest_ends
from actasone.needs import needs_in
from actasone.rulelooks import lasting_in, moved_looks
from actasone.usable import need, need_age, need_rule


def longest_end(book, rule, *, age=0):
    need_promised(book, rule)
    need_age(book, age)
    return longest_in(book, rule, age)


def least_untils(book, rule, *, age=0):
    need_promised(book, rule)
    need_age(book, age)
    house, _, lot, end, promises = book[3][rule]
    served = lot + lasting_in(book[2], book[3][rule])
    sets = caught_sets(book, rule, age)
    untils = []
    for name, _ in promises:
        # What the lot and the other promises leave to this one.
        others = [late for late in served if late in lot or late != name]
        left = [part for part in sets if common_part(part, others) == ()]
        untils.append(least_until_for(book[2], house, end, name, left))
    return tuple(untils)


def need_promised(book, rule):
    need_rule(book, rule)
    need(book[3][rule][4] != (), "rule")


def caught_sets(book, rule, age):
    """What the rule has to catch to be right."""
    house, looks, _, _, _ = book[3][rule]
    return needs_in(book[1], house) if moved_looks(book[0], looks, age) != () else ()


def longest_in(book, rule, age):
    house, _, lot, _, promises = book[3][rule]
    return least_end(longest_ends(book[2], house, caught_sets(book, rule, age), lot, promises))


def least_until_for(clocks, house, end, name, sets):
    """The least until with which a promise of the name is in time for all the sets."""
    gap = gap_between(clocks, name, house)
    if sets == []:
        return "any"
    if gap == "any" or not all([name in part for part in sets]):
        return None
    return end + gap
