"""Small books that are drawn, always the same ones."""

from random import Random

from tests import plain
from tests import plainclocks as plainly
from tests.samples import CALM, FLIP, LAMP, LONE, ROUND, THREE, TURN, bounds_by_turns, machine_by_turns, set_of, some_of

# Gaps are at most 3 and untils at most 4 from the ends, so that shifts as far apart tell all.
SPAN = 6


def some_clocks(random, houses):
    """A clock table with gaps that are few or many, small, and perhaps below nought."""
    while True:
        bounds = bounds_by_turns(random, houses, random.randint(0, 2 * len(houses)), -1, 2)
        if plainly.has_table(houses, bounds):
            table = plainly.table_of(houses, bounds)
            if all(-3 <= gap <= 3 for _, _, gap in table):
                return table


def some_trust(random, many):
    """Mostly with few fears and great lots, so that not all are at odds."""
    houses = ('a', 'b', 'c')[:many]
    trust = []
    for house in houses:
        lots = set_of([tuple(sorted(random.sample(houses, random.randint(1 + many // 2, many)))) for _ in range(random.randint(1, 3))])
        others = [other for other in houses if other != house]
        fears = [tuple(random.sample(others, random.choice((0, 0, 1))) if others else ()) for _ in range(random.randint(1, 2))]
        trust.append((house, lots, set_of(fears)))
    return tuple(trust)


def some_looking(random, machine, houses):
    looks = some_of(random, machine[1]) or machine[1][:1]
    lot = some_of(random, houses) if random.random() < 0.6 else ()
    if random.random() < 0.3:
        return (random.choice(houses), looks, lot, 'any', ())
    end = random.randint(-2, 2)
    promises = tuple((house, end + random.randint(-3, 4)) for house in some_of(random, houses))
    return (random.choice(houses), looks, lot, end, promises)


def drawn_book(random, waking=True, most=3):
    machine = random.choice([LAMP, TURN, ROUND, FLIP, machine_by_turns(random, random.randint(1, most), 2, random.randint(1, 2))])
    trust = random.choice([CALM, THREE, LONE] + [some_trust(random, random.randint(1, 3)) for _ in range(5)])
    houses = tuple(plain.houses_of(trust))
    looking = tuple(some_looking(random, machine, houses) for _ in range(random.randint(0, 3)))
    waking = tuple((random.choice(houses), random.randint(1, 3)) for _ in range(random.randint(0, 2))) if waking else ()
    return (machine, trust, some_clocks(random, houses), looking, waking)


def drawn_books(many=150, seed=70, waking=None, most=3):
    """By turns with and without rules of waking, or all of one sort."""
    random = Random(seed)
    for k in range(many):
        yield drawn_book(random, k % 2 == 0 if waking is None else waking, most)
