"""Clocks and bounds, told slowly: over all ways, and over all settings within a span."""

from itertools import permutations, product

from tests.plain import is_clocks, is_integer, is_name, is_number, is_set, is_tuple


def gaps_of(bounds):
    """The least gap for each pair with a bound."""
    return {(begin, end): min(gap for *pair, gap in bounds if pair == [begin, end]) for begin, end, _ in bounds}


def sum_of(bounds, way):
    """None where a bound is missing."""
    gaps = gaps_of(bounds)
    steps = list(zip(way, way[1:]))
    return sum(gaps[step] for step in steps) if all(step in gaps for step in steps) else None


def ways(houses, bounds, one, other):
    """All ways from one to another house, each with its sum."""
    told = {}
    between = [house for house in houses if house not in (one, other)]
    for many in range(len(between) + 1):
        for middle in permutations(between, many):
            way = (one,) + middle + (other,) if one != other else (one,)
            if sum_of(bounds, way) is not None:
                told[way] = sum_of(bounds, way)
    return told


def rings(houses, bounds):
    """All rings that begin with the least of their houses, each with its sum."""
    told = {}
    for many in range(2, len(houses) + 1):
        for ring in permutations(houses, many):
            if ring[0] == min(ring) and sum_of(bounds, ring + ring[:1]) is not None:
                told[ring] = sum_of(bounds, ring + ring[:1])
    return told


def has_table(houses, bounds):
    return all(total >= 0 for total in rings(houses, bounds).values())


def table_of(houses, bounds):
    told = []
    for one, other in permutations(houses, 2):
        found = ways(houses, bounds, one, other)
        if found:
            told.append((one, other, min(found.values())))
    return tuple(sorted(told))


def gap_of(clocks, one, other):
    return 0 if one == other else {triple[:2]: triple[2] for triple in clocks}.get((one, other), 'any')


def keeps(houses, bounds, setting):
    shifts = dict(zip(houses, setting))
    return all(shifts[end] - shifts[begin] <= gap for begin, end, gap in bounds)


def settings(houses, span):
    return product(range(-span, span + 1), repeat=len(houses))


def is_way(bounds, value):
    if type(value) is not tuple or not value or not all(is_name(house) for house in value):
        return False
    return len(set(value)) == len(value) and sum_of(bounds, value) is not None


def table(houses, bounds, thing):
    """What lets_table has to say."""
    kind = thing[0] if type(thing) is tuple and thing and type(thing[0]) is str else None
    if kind == 'none' and is_tuple(thing, 2) and type(thing[1]) is tuple:
        ring = thing[1]
        if not is_way(bounds, ring) or len(ring) < 2 or sum_of(bounds, ring + ring[:1]) is None:
            return ('ring', -1)
        return ('sum', -1) if sum_of(bounds, ring + ring[:1]) >= 0 else [False]
    if kind != 'table' or not is_tuple(thing, 3) or type(thing[1]) is not tuple or type(thing[2]) is not tuple:
        return ('shape', -1)
    _, clocks, told = thing
    if not is_clocks(clocks):
        return ('clocks', -1)
    if len(told) != len(clocks):
        return ('ways', -1)
    for k, (begin, end, gap) in enumerate(clocks):
        if not is_way(bounds, told[k]) or (told[k][0], told[k][-1]) != (begin, end):
            return ('way', k)
        if sum_of(bounds, told[k]) != gap:
            return ('sum', k)
    for k, (begin, end, gap) in enumerate(bounds):
        if gap_of(clocks, begin, end) == 'any' or gap_of(clocks, begin, end) > gap:
            return ('bound', k)
    return [True]


def catches(clocks, house, end, part, lot, promises):
    """Whether a rule of this house with this end catches a set."""
    for name in part:
        if name in lot:
            return True
        for promiser, until in promises:
            gap = gap_of(clocks, promiser, house)
            if promiser == name and gap != 'any' and gap <= until - end:
                return True
    return False


def is_set_of_names(value):
    return is_set(value, is_name)


def longest(clocks, house, sets, lot, promises, thing):
    """What lets_longest has to say."""
    kind = thing[0] if type(thing) is tuple and thing and type(thing[0]) is str else None
    if kind == 'any' and len(thing) == 1:
        for k, part in enumerate(sets):
            if not set(part) & set(lot):
                return ('set', k)
        return ['any']
    if kind == 'longest' and len(thing) == 4 and is_integer(thing[1]) and type(thing[2]) is tuple and is_number(thing[3]):
        _, end, keepers, index = thing
        if len(keepers) != len(sets):
            return ('many', -1)
        for k, keeper in enumerate(keepers):
            good = type(keeper) is str and keeper in sets[k] and catches(clocks, house, end, (keeper,), lot, promises)
            if not good:
                return ('keeper', k)
    elif kind == 'never' and len(thing) == 2 and is_number(thing[1]):
        end, index = None, thing[1]
    else:
        return ('shape', -1)
    if index >= len(sets):
        return ('index', -1)
    if set(sets[index]) & set(lot):
        return ('lot', -1)
    for j, (name, until) in enumerate(promises):
        gap = gap_of(clocks, name, house)
        if name in sets[index] and gap != 'any' and (end is None or until - gap > end):
            return ('promise', j)
    return [end]
