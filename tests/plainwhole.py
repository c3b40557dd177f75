"""What is wrong with a book, told slowly: over all falls, settings, walks and pairs of states."""

from functools import lru_cache
from itertools import product

from tests import plain
from tests import plainclocks as plainly
from tests.plain import is_number, is_tuple


@lru_cache(None)
def fitting(clocks, houses, span):
    return [setting for setting in product(range(-span, span + 1), repeat=len(houses)) if plainly.keeps(houses, clocks, setting)]


def lasts(book, rule, house, span):
    """Whether in each setting that fits, of shifts within the span, the promise outlasts the end."""
    houses = tuple(plain.houses_of(book[1]))
    owner, _, _, end, promises = book[3][rule]
    if house not in dict(promises):
        return False
    at, beside = houses.index(owner), houses.index(house)
    # The end by the owner's clock is no later, by true time, than the until by the other clock.
    return all(end + setting[at] <= dict(promises)[house] + setting[beside] for setting in fitting(book[2], houses, span))


def lasting(book, rule, span):
    return tuple(house for house in plain.houses_of(book[1]) if lasts(book, rule, house, span))


def told_sets(trust, house, falls):
    """Each lot of another house without a fall in which both are safe."""
    return {
        tuple(sorted(plain.lot_of(trust, pair) - set(fall)))
        for fall in falls
        for pair in plain.pairs_of(trust)
        if pair[0] != house and plain.is_safe(trust, house, fall) and plain.is_safe(trust, pair[0], fall)
    }


def moves(book, rule, age):
    return any(plain.moves_past(book[0], look, age) for look in book[3][rule][1])


def lacks(book, rule, age, span, falls=None):
    """The least sets that a rule has to catch and does not."""
    if not moves(book, rule, age):
        return ()
    house, _, lot, _, _ = book[3][rule]
    caught = set(lot) | set(lasting(book, rule, span))
    sets = told_sets(book[1], house, plain.all_falls(book[1]) if falls is None else falls)
    return tuple(part for part in plain.least(sets) if not caught & set(part))


def looks_of_house(book, house):
    return tuple(sorted({look for name, looks, *_ in book[3] if name == house for look in looks}))


def is_waking_right(book, waking):
    house, many = book[4][waking]
    return plain.settles(book[0], looks_of_house(book, house), many)


def faults(book, age, span):
    told = [('odds', one, other) for one, other in plain.all_odds(book[1])]
    told += [('looking', k) for k in range(len(book[3])) if lacks(book, k, age, span)]
    told += [('waking', k) for k in range(len(book[4])) if not is_waking_right(book, k)]
    return tuple(sorted(told))


def faults_in(book, fall, span):
    """With just this fall in the place of all."""
    safe = [house for house in plain.houses_of(book[1]) if plain.is_safe(book[1], house, fall)]
    pairs = plain.pairs_of(book[1])
    told = [('odds', one, other) for one in pairs for other in pairs if one <= other and plain.is_odds_fall(book[1], one, other, fall)]
    told += [('looking', k) for k, rule in enumerate(book[3]) if rule[0] in safe and lacks(book, k, 0, span, [fall])]
    told += [('waking', k) for k, rule in enumerate(book[4]) if rule[0] in safe and not is_waking_right(book, k)]
    return tuple(sorted(told))


def least_age(book, span):
    """Of the first ages, as an age past which a look moves from there on it moves past each one."""
    for age in range(len(book[0][2]) + 1):
        if not faults(book, age, span):
            return age
    return None


def is_fault(book, value):
    if not isinstance(value, tuple) or not value or type(value[0]) is not str:
        return False
    if value[0] == 'odds' and len(value) == 3:
        return plain.is_pair(book[1], value[1]) and plain.is_pair(book[1], value[2]) and value[1] <= value[2]
    rules = {'looking': book[3], 'waking': book[4]}.get(value[0])
    return rules is not None and len(value) == 2 and is_number(value[1]) and value[1] < len(rules)


def book_paper(book, thing, span, is_run_of, is_one):
    """What lets_book has to say; is_run_of and is_one judge runs."""
    kind = thing[0] if type(thing) is tuple and thing and type(thing[0]) is str else None
    if kind == 'run' and len(thing) == 2:
        if not is_run_of(book, thing[1]):
            return ('run', -1)
        return ('one', -1) if is_one(book, thing[1]) else [False]
    if kind != 'one' or len(thing) != 5 or not all(type(part) is tuple for part in thing[1:]):
        return ('shape', -1)
    _, kept, still, met, partings = thing
    pairs = plain.pairs_of(book[1])
    both = [(one, other) for one in pairs for other in pairs if one <= other]
    checks = (
        ('kept', kept, [lambda value, two=two: is_kept(book[1], *two, value) for two in both]),
        ('still', still, [lambda value, look=look: is_still(book[0], look, value) for look in book[0][1]]),
        ('met', met, [lambda value, k=k: is_met(book, k, still, value, span) for k in range(len(book[3]))]),
        ('partings', partings, [lambda value, rule=rule: are_partings(book, *rule, value) for rule in book[4]]),
    )
    for word, parts, judges in checks:
        if len(parts) != len(judges):
            return (word, -1)
        for k, judge in enumerate(judges):
            if not judge(parts[k]):
                return (word, k)
    return [True]


def is_kept(trust, one, other, value):
    falls = plain.greatest(plain.falls_of_both(trust, one[0], other[0]))
    common = plain.lot_of(trust, one) & plain.lot_of(trust, other)
    if not is_tuple(value, len(falls)):
        return False
    return all(type(house) is str and house in common - set(fall) for house, fall in zip(value, falls))


def is_still(machine, look, value):
    if type(value) is tuple and value == ():
        return True
    if not is_tuple(value, len(machine[2])) or not all(type(part) is bool for part in value) or not value[0]:
        return False
    held = {state for state in range(len(value)) if value[state]}
    if any(late not in held for state in held for late in machine[2][state]):
        return False
    return len({plain.answers(machine, state, (look,))[0] for state in held}) == 1


def is_met(book, rule, still, value, span):
    house, looks, lot, _, _ = book[3][rule]
    if all(still[book[0][1].index(look)] != () for look in looks):
        return type(value) is tuple and value == ()
    sets = plain.needs_of(book[1], house)
    if not is_tuple(value, len(sets)):
        return False
    caught = set(lot) | set(lasting(book, rule, span))
    return all(type(name) is str and name in caught and name in part for name, part in zip(value, sets))


def are_partings(book, house, many, value):
    looks = looks_of_house(book, house)
    if not looks:
        return type(value) is tuple and value == ()
    machine = book[0]
    states = range(len(machine[2]))
    if not is_tuple(value, many + 1):
        return False
    for part in value:
        if not is_tuple(part, len(machine[2])) or not all(is_number(number) for number in part):
            return False
    for one, other in product(states, repeat=2):
        for k, part in enumerate(value):
            if part[one] == part[other]:
                ahead = value[max(0, k - 1)]
                if k == 0 and plain.answers(machine, one, looks) != plain.answers(machine, other, looks):
                    return False
                if any(ahead[a] != ahead[b] for a, b in zip(machine[2][one], machine[2][other])):
                    return False
    return len(set(value[-1])) == 1
