"""What values are and what results have to be, told slowly, straight from the definitions."""

import re
from functools import lru_cache
from itertools import combinations, product


def is_integer(value):
    return type(value) is int


def is_number(value):
    return type(value) is int and value >= 0


def is_name(value):
    return type(value) is str and re.fullmatch('[a-z]{1,8}', value) is not None and value != 'any'


def is_set(value, good):
    return type(value) is tuple and all(good(part) for part in value) and list(value) == sorted(set(value))


def is_tuple(value, many):
    return type(value) is tuple and len(value) == many


def is_machine(value):
    if not is_tuple(value, 4):
        return False
    letters, looks, moves, answers = value
    if not (is_set(letters, is_name) and len(letters) >= 2 and is_set(looks, is_name) and len(looks) >= 1):
        return False
    if type(moves) is not tuple or len(moves) == 0 or not is_tuple(answers, len(moves)):
        return False
    for row in moves:
        if not is_tuple(row, len(letters)) or not all(is_number(state) and state < len(moves) for state in row):
            return False
    return all(is_tuple(row, len(looks)) and all(is_number(part) for part in row) for row in answers)


def is_trust(value):
    if type(value) is not tuple or not value or not all(is_tuple(part, 3) and is_name(part[0]) for part in value):
        return False
    houses = [part[0] for part in value]
    if houses != sorted(set(houses)):
        return False
    for house, lots, fears in value:
        if not is_set(lots, lambda lot: is_set(lot, lambda part: part in houses) and lot) or not lots:
            return False
        others = [other for other in houses if other != house]
        if not is_set(fears, lambda fear: is_set(fear, lambda part: part in others)) or not fears:
            return False
    return True


def is_clocks(value, good=is_name):
    if type(value) is not tuple:
        return False
    for part in value:
        if not is_tuple(part, 3) or not good(part[0]) or not good(part[1]) or part[0] == part[1]:
            return False
        if not is_integer(part[2]):
            return False
    pairs = [part[:2] for part in value]
    return pairs == sorted(set(pairs)) and triangle_of(value) is None


def triangle_of(triples):
    """The least triple of houses whose gap is too great, of triples in whatever order."""
    gaps = {part[:2]: part[2] for part in triples}
    names = sorted(set(name for part in triples for name in part[:2]))
    for p, q, r in product(names, repeat=3):
        whole = 0 if p == r else gaps.get((p, r), 'any')
        one = 0 if p == q else gaps.get((p, q), 'any')
        two = 0 if q == r else gaps.get((q, r), 'any')
        if one == 'any' or two == 'any':
            continue
        if whole == 'any' or whole > one + two:
            return (p, q, r)
    return None


def is_looking(value, good_house=is_name, good_look=is_name):
    if not is_tuple(value, 5):
        return False
    house, looks, lot, end, promises = value
    if not good_house(house) or not is_set(looks, good_look) or not looks or not is_set(lot, good_house):
        return False
    if not is_integer(end) and not (type(end) is str and end == 'any'):
        return False
    good = lambda part: is_tuple(part, 2) and good_house(part[0]) and is_integer(part[1])
    if not is_set(promises, good) or len(set(part[0] for part in promises)) < len(promises):
        return False
    return promises == () or end != 'any'


def is_waking(value, good_house=is_name):
    return is_tuple(value, 2) and good_house(value[0]) and is_integer(value[1]) and value[1] >= 1


def is_book(value):
    if not is_tuple(value, 5) or not is_machine(value[0]) or not is_trust(value[1]):
        return False
    houses = [part[0] for part in value[1]]
    looks = value[0][1]
    is_house = lambda part: type(part) is str and part in houses
    is_look = lambda part: type(part) is str and part in looks
    if not is_clocks(value[2], is_house) or type(value[3]) is not tuple or type(value[4]) is not tuple:
        return False
    return all(is_looking(rule, is_house, is_look) for rule in value[3]) and all(
        is_waking(rule, is_house) for rule in value[4]
    )


def rows_of(machine, many):
    """All rows of so many letters, ascending."""
    return list(product(machine[0], repeat=many))


def rows_up_to(machine, many):
    return [row for k in range(many + 1) for row in rows_of(machine, k)]


def made_of(machine, state, row):
    for letter in row:
        state = machine[2][state][machine[0].index(letter)]
    return state


def answers(machine, state, looks):
    return [machine[3][state][machine[1].index(look)] for look in looks]


def row_to(machine, state):
    for row in rows_up_to(machine, len(machine[2])):
        if made_of(machine, 0, row) == state:
            return row
    return None


def reachable(machine):
    """By steps that change nothing once all are found."""
    found = {0}
    for _ in machine[2]:
        found |= {late for state in found for late in machine[2][state]}
    return tuple(sorted(found))


def parting_row(machine, state, other, looks):
    for row in rows_up_to(machine, len(machine[2])):
        one, two = made_of(machine, state, row), made_of(machine, other, row)
        if answers(machine, one, looks) != answers(machine, two, looks):
            return row
    return None


def unlike_pairs(machine, looks):
    """All pairs of states that some row tells apart, by adding pairs that a letter leads to one."""
    pairs = list(product(range(len(machine[2])), repeat=2))
    found = {pair for pair in pairs if answers(machine, pair[0], looks) != answers(machine, pair[1], looks)}
    while True:
        more = {
            (one, two)
            for one, two in pairs
            if any((a, b) in found for a, b in zip(machine[2][one], machine[2][two]))
        }
        if more <= found:
            return found
        found |= more


def moves_past(machine, look, age):
    """Over all rows: an age is passed by a way there, and age letters more."""
    for state in reachable(machine):
        told = answers(machine, state, (look,))
        for many in range(age + 1, age + 1 + len(machine[2])):
            for row in rows_of(machine, many):
                lasts = [made_of(machine, state, row[:k]) for k in range(many - age, many + 1)]
                if all(answers(machine, late, (look,)) != told for late in lasts):
                    return True
    return False


def settles(machine, looks, many):
    unlike = unlike_pairs(machine, looks)
    for row in rows_of(machine, many):
        ends = {made_of(machine, state, row) for state in range(len(machine[2]))}
        if any(pair in unlike for pair in product(ends, repeat=2)):
            return False
    return True


def parting(machine, looks, many):
    unlike = unlike_pairs(machine, looks)
    rows = rows_of(machine, many)
    told = []
    for state in range(len(machine[2])):
        for low in range(state + 1):
            if all((made_of(machine, low, row), made_of(machine, state, row)) not in unlike for row in rows):
                told.append(low)
                break
    return tuple(told)


@lru_cache(None)
def all_falls(trust):
    houses = [part[0] for part in trust]
    return sorted(fall for k in range(len(houses) + 1) for fall in combinations(houses, k))


def is_safe(trust, house, fall):
    fears = [part[2] for part in trust if part[0] == house][0]
    return house not in fall and any(set(fall) <= set(fear) for fear in fears)


def greatest(sets):
    return tuple(sorted(one for one in sets if not any(set(one) < set(other) for other in sets)))


def houses_of(trust):
    return [part[0] for part in trust]


def pairs_of(trust):
    return [(house, index) for house, lots, _ in trust for index in range(len(lots))]


def is_pair(trust, value):
    return is_tuple(value, 2) and is_integer(value[1]) and any(
        told(value) == told(pair) for pair in pairs_of(trust)
    )


def told(value):
    """With its kind, so that True is not 1."""
    return (type(value).__name__, [told(part) for part in value] if isinstance(value, (tuple, list)) else value)


def is_fall(trust, value):
    return is_set(value, lambda part: type(part) is str and part in houses_of(trust))


def lot_of(trust, pair):
    return set(dict((house, lots) for house, lots, _ in trust)[pair[0]][pair[1]])


@lru_cache(None)
def falls_of_both(trust, one, other):
    return [fall for fall in all_falls(trust) if is_safe(trust, one, fall) and is_safe(trust, other, fall)]


def is_odds_fall(trust, one, other, fall):
    safe = is_safe(trust, one[0], fall) and is_safe(trust, other[0], fall)
    return safe and lot_of(trust, one) & lot_of(trust, other) <= set(fall)


def all_odds(trust):
    pairs = pairs_of(trust)
    return tuple(
        (one, other)
        for one in pairs
        for other in pairs
        if one <= other and any(is_odds_fall(trust, one, other, fall) for fall in all_falls(trust))
    )


def without_pairs(trust, pairs):
    """None if a house has no lot left."""
    late = tuple(
        (house, tuple(lot for k, lot in enumerate(lots) if (house, k) not in pairs), fears) for house, lots, fears in trust
    )
    return late if all(part[1] for part in late) else None


def fewest_dropped(trust):
    """How few pairs, over all sets of them; None if no set of them will do."""
    odds = all_odds(trust)
    for many in range(len(pairs_of(trust)) + 1):
        for pairs in combinations(pairs_of(trust), many):
            if all(one in pairs or other in pairs for one, other in odds) and without_pairs(trust, pairs) is not None:
                return many
    return None


@lru_cache(None)
def all_needed(trust, house):
    return {
        tuple(sorted(lot_of(trust, pair) - set(fall)))
        for pair in pairs_of(trust)
        if pair[0] != house
        for fall in falls_of_both(trust, house, pair[0])
    }


def least(sets):
    return tuple(sorted(one for one in sets if not any(set(other) < set(one) for other in sets)))


@lru_cache(None)
def needs_of(trust, house):
    return least(all_needed(trust, house))


def meets(needs, lot):
    return all(set(part) & set(lot) for part in needs)


def least_lots(trust, house):
    needs = all_needed(trust, house)
    return least([lot for lot in all_falls(trust) if meets(needs, lot)])
