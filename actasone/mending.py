"""What of a book can be kept, and rules that are right in it."""

from actasone.bestends import longest_in
from actasone.kinds import house_names, is_set_of
from actasone.needs import fewest_in
from actasone.odds import least_dropped_in, odds_in, trust_without
from actasone.rulelooks import is_right_waking, lacks_in, moved_looks
from actasone.usable import need, need_book


def kept_rules(book):
    need_book(book)
    need(odds_in(book[1]) == (), "book")
    return kept_in(book)


def least_changes(book):
    need_book(book)
    pairs = least_dropped_in(book[1])
    if pairs is None:
        return None
    machine, trust, clocks, looking, waking = book
    return (pairs, kept_in((machine, trust_without(trust, pairs), clocks, looking, waking)))


def with_longest_ends(book):
    need_book(book)
    machine, trust, clocks, looking, waking = book
    late = tuple(with_longest_end(book, rule) for rule in range(len(looking)))
    return (machine, trust, clocks, late, waking)


def an_ask_for(book, house, looks):
    need_book(book)
    need(house in house_names(book[1]), "house")
    need(is_set_of(looks, book[0][1]) and looks != (), "looks")
    lot = () if moved_looks(book[0], looks, 0) == () else fewest_in(book[1], house)
    return None if lot is None else (house, looks, lot, "any", ())


def kept_in(book):
    """The book with those of its rules that have no fault in it."""
    machine, trust, clocks, looking, waking = book
    looks = tuple(entry for k, entry in enumerate(looking) if lacks_in(book, k, 0) == ())
    wakes = tuple(entry for k, entry in enumerate(waking) if is_right_waking(book, k))
    return (machine, trust, clocks, looks, wakes)


def with_longest_end(book, rule):
    """The rule with its longest end, where this is an integer."""
    house, looks, lot, end, promises = book[3][rule]
    # Without promises it is no integer.
    longest = longest_in(book, rule, 0)
    return (house, looks, lot, end if longest in ("any", None) else longest, promises)
