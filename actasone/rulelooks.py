"""Which rules of looking, and of waking, are right."""

from actasone.boundtables import gap_between
from actasone.counting import is_settled, parting_after
from actasone.falls import common_part
from actasone.kinds import house_names, is_index, is_set_of
from actasone.moving import is_past, least_age_of
from actasone.needs import needs_in
from actasone.usable import need, need_age, need_book, need_rule


def lasting(book, rule):
    need_rule(book, rule)
    return lasting_in(book[2], book[3][rule])


def catches(book, rule, lot):
    need_rule(book, rule)
    need(is_set_of(lot, house_names(book[1])), "lot")
    return common_part(lot, caught_by(book, rule)) != ()


def rule_lacks(book, rule, *, age=0):
    need_rule(book, rule)
    need_age(book, age)
    return lacks_in(book, rule, age)


def rule_is_right(book, rule, *, age=0):
    need_rule(book, rule)
    need_age(book, age)
    return lacks_in(book, rule, age) == ()


def waking_is_right(book, waking):
    need_book(book)
    need(is_index(waking, book[4]), "waking")
    return is_right_waking(book, waking)


def lasting_in(clocks, entry):
    """The houses of this rule of looking whose promises last."""
    house, _, _, end, promises = entry
    gaps = [(name, until, gap_between(clocks, name, house)) for name, until in promises]
    return tuple(name for name, until, gap in gaps if gap != "any" and gap <= until - end)


def caught_by(book, rule):
    """The houses with which the rule catches what they are in."""
    return book[3][rule][2] + lasting_in(book[2], book[3][rule])


def moved_looks(machine, looks, age):
    """Those of the looks that move past the age."""
    return tuple(look for look in looks if is_past(least_age_of(machine, look), age))


def lacks_in(book, rule, age):
    """The needs that the rule does not catch, if one of its looks moves past the age."""
    house, looks, _, _, _ = book[3][rule]
    if moved_looks(book[0], looks, age) == ():
        return ()
    caught = caught_by(book, rule)
    return tuple(part for part in needs_in(book[1], house) if common_part(part, caught) == ())


def looks_of_house(book, house):
    """The looks of all rules of looking of the house."""
    return tuple(sorted({look for name, looks, _, _, _ in book[3] for look in looks if name == house}))


def is_right_waking(book, waking):
    house, many = book[4][waking]
    # Without a rule of looking there are no looks, and any two states are alike by none.
    return is_settled(parting_after(book[0], looks_of_house(book, house), many))
