"""Books that are made of books, and books compared."""

from actasone.alikestates import least_of
from actasone.kinds import house_names, is_book, is_looking_of, is_waking_of
from actasone.needs import needs_in
from actasone.rulelooks import lasting_in
from actasone.usable import need, need_book
from actasone.whole import faults_told, is_rule_fault


def with_rule(book, rule):
    need_book(book)
    machine, trust, clocks, looking, waking = book
    names = house_names(trust)
    if is_looking_of(rule, machine[1], names):
        return (machine, trust, clocks, looking + (rule,), waking)
    need(is_waking_of(rule, names), "rule")
    return (machine, trust, clocks, looking, waking + (rule,))


def without_rule(book, fault):
    need_book(book)
    need(is_rule_fault(book, fault), "fault")
    machine, trust, clocks, looking, waking = book
    word, index = fault
    if word == "looking":
        return (machine, trust, clocks, left_without(looking, index), waking)
    return (machine, trust, clocks, looking, left_without(waking, index))


def books_alike(book, other):
    need_book(book)
    need(is_comparable(book, other), "other")
    if least_of(book[0]) != least_of(other[0]):
        return False
    if any([needs_in(book[1], name) != needs_in(other[1], name) for name in house_names(book[1])]):
        return False
    if any([lasting_in(book[2], entry) != lasting_in(other[2], entry) for entry in book[3]]):
        return False
    return faults_told(book, 0) == faults_told(other, 0)


def left_without(rules, index):
    return rules[:index] + rules[index + 1 :]


def is_comparable(book, thing):
    """Whether any value is a book of the same letters, looks, houses and rules."""
    if not is_book(thing) or thing[0][:2] != book[0][:2]:
        return False
    return house_names(thing[1]) == house_names(book[1]) and thing[3:] == book[3:]
