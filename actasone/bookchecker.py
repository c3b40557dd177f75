"""Whether a paper on a book is right: that it is as one, or that a run of it is not."""

from actasone.alikestates import answers_to
from actasone.bookpapers import are_still, both_pairs
from actasone.falls import falls_of_both
from actasone.kinds import are_numbers, is_tuple
from actasone.machineparts import answer_at
from actasone.needs import needs_in
from actasone.odds import lot_of
from actasone.oneness import row_of
from actasone.rulelooks import caught_by, looks_of_house
from actasone.runchecker import told_of
from actasone.usable import need_book, need_right


def lets_book(book, thing):
    need_book(book)
    need_right(has_shape(thing), "shape", -1)
    if thing[0] == "run":
        told = told_of(book, thing[1])
        need_right(told is not None, "run", -1)
        need_right(row_of(told, 0) is None, "one", -1)
        return False
    _, kept, still, met, partings = thing
    both = both_pairs(book[1])
    need_many(kept, len(both), "kept")
    for k, (one, other) in enumerate(both):
        need_right(is_kept(book[1], one, other, kept[k]), "kept", k)
    need_many(still, len(book[0][1]), "still")
    for k, look in enumerate(book[0][1]):
        need_right(keeps_still(book[0], look, still[k]), "still", k)
    need_many(met, len(book[3]), "met")
    for k in range(len(book[3])):
        need_right(is_met(book, k, still, met[k]), "met", k)
    need_many(partings, len(book[4]), "partings")
    for k, entry in enumerate(book[4]):
        need_right(are_partings(book, entry, partings[k]), "partings", k)
    return True


def need_many(things, many, word):
    need_right(len(things) == many, word, -1)


def has_shape(thing):
    if is_tuple(thing, 2):
        return thing[0] == "run"
    if not is_tuple(thing, 5) or thing[0] != "one":
        return False
    return all([isinstance(part, tuple) for part in thing[1:]])


def is_kept(trust, one, other, thing):
    """Whether there is, for each fall, a house of both lots that is not in it."""
    falls = falls_of_both(trust, one[0], other[0])
    if not is_tuple(thing, len(falls)):
        return False
    right = [name for name in lot_of(trust, one) if name in lot_of(trust, other)]
    return all([house in right and house not in fall for house, fall in zip(thing, falls)])


def keeps_still(machine, look, thing):
    """Whether the states with True, which letters do not leave, answer the look as the start."""
    if thing == ():
        return True
    if not is_tuple(thing, len(machine[2])) or not all([isinstance(part, bool) for part in thing]):
        return False
    held = [state for state, part in enumerate(thing) if part]
    if 0 not in held or not all([thing[late] for state in held for late in machine[2][state]]):
        return False
    return len({answer_at(machine, state, look) for state in held}) == 1


def is_met(book, rule, still, thing):
    house, looks, _, _, _ = book[3][rule]
    if are_still(book[0], looks, still):
        return thing == ()
    sets = needs_in(book[1], house)
    if not is_tuple(thing, len(sets)):
        return False
    caught = caught_by(book, rule)
    return all([name in part and name in caught for name, part in zip(thing, sets)])


def are_partings(book, entry, thing):
    house, many = entry
    looks = looks_of_house(book, house)
    if looks == ():
        return thing == ()
    machine = book[0]
    if not is_tuple(thing, many + 1) or not all([are_numbers(part, len(machine[2])) for part in thing]):
        return False
    answers = [answers_to(machine, state, looks) for state in range(len(machine[2]))]
    if not are_alike_by(thing[0], answers) or not leads_into(machine, thing[0], thing[0]):
        return False
    if not all([leads_into(machine, late, ahead) for ahead, late in zip(thing, thing[1:])]):
        return False
    return len(set(thing[-1])) == 1


def are_alike_by(parting, keys):
    """Whether all with the same number in the parting have the same key."""
    firsts = {}
    for number, key in zip(parting, keys):
        if firsts.get(number, key) != key:
            return False
        firsts[number] = key
    return True


def leads_into(machine, parting, ahead):
    """Whether each letter makes, of states of one class, states of one class of the one ahead."""
    return are_alike_by(parting, [tuple([ahead[late] for late in row]) for row in machine[2]])
