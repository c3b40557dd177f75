"""The values of the document's examples, values of all kinds, and values made by turns."""

from random import Random

LAMP = (('off', 'on'), ('lit',), ((0, 1), (0, 1)), ((0,), (1,)))
PAIRS = (('a', 'b'), ('a', 'c'), ('b', 'c'))
THREE = (('a', PAIRS, (('b',), ('c',))), ('b', PAIRS, (('a',), ('c',))), ('c', PAIRS, (('a',), ('b',))))
CALM = (('a', PAIRS, ((),)), ('b', PAIRS, ((),)), ('c', PAIRS, ((),)))
SMALL = (LAMP, CALM, (('a', 'b', 2),), (('a', ('lit',), (), 10, (('b', 12), ('c', -1))),), (('a', 3),))
DIAL = (('down', 'up'), ('high', 'low'), ((0, 1), (0, 2), (1, 2)), ((0, 1), (0, 0), (1, 0)))
SPARE = (('hold', 'turn'), ('lit',), ((2, 1), (1, 0), (0, 1), (3, 3)), ((0,), (1,), (0,), (1,)))
ROUND = (('tick', 'tock'), ('day', 'hour'), ((1, 1), (2, 2), (0, 0)), ((0, 0), (0, 1), (0, 2)))
# Each letter leads to the other state: another answer lasts for one state, not for two.
FLIP = (('tick', 'tock'), ('lit',), ((1, 1), (0, 0)), ((0,), (1,)))
PAST = (('no', 'yes'), ('new', 'old'), ((0, 1), (2, 3), (0, 1), (2, 3)), ((0, 0), (1, 0), (0, 1), (1, 1)))
TRIOS = (('a', 'b', 'c'), ('a', 'b', 'd'), ('a', 'c', 'd'), ('b', 'c', 'd'))
FEARS = (
    (('b',), ('c',), ('d',)),
    (('a',), ('c',), ('d',)),
    (('a',), ('b',), ('d',)),
    (('a',), ('b',), ('c',)),
)
FOUR = (('a', TRIOS, FEARS[0]), ('b', TRIOS, FEARS[1]), ('c', TRIOS, FEARS[2]), ('d', TRIOS, FEARS[3]))
LONE = (('a', (('b',),), (('b',),)), ('b', (('b',),), ((),)))
LAMED = (('a', (('b',),), ((),)), ('b', (('a',),), (('a',),)))
TURN = (('hold', 'turn'), ('lit',), ((0, 1), (1, 0)), ((0,), (1,)))
# State 3 is reached from nowhere, nothing leads back to the start, and 2 and 4 are alike.
WIDE = (
    ('east', 'north', 'south', 'west'),
    ('far', 'near', 'sun'),
    ((1, 2, 4, 5), (1, 1, 2, 4), (2, 4, 2, 4), (0, 1, 2, 3), (4, 2, 4, 2), (5, 5, 1, 5)),
    ((0, 1, 7), (2, 1, 7), (0, 0, 7), (3, 1, 7), (0, 0, 7), (1, 1, 7)),
)
NEAR = (('a', 'b', 2), ('a', 'c', 2), ('b', 'a', 2), ('b', 'c', 2), ('c', 'a', 2), ('c', 'b', 2))
LIT = ('lit',)
LOOKS = (
    ('a', LIT, ('a', 'b'), 'any', ()),
    ('b', LIT, ('c',), 'any', ()),
    ('a', LIT, (), 10, (('b', 12), ('c', 12))),
    ('a', LIT, (), 10, (('b', 11), ('c', 12))),
)
BOOK = (LAMP, CALM, NEAR, LOOKS, (('a', 1),))
VOTES = (('vote', 0, 'a', 0, 'on'), ('vote', 0, 'b', 0, 'on'), ('learn', 1, 'a', ('a', 'b'), 0, 'on'))
PLAIN = ((), (0, 0, 0), VOTES + (('begin', 1, 'b', 1, 'lit'), ('told', 1, 3, 'c', 0), ('answer', 1, 3, 0)))
LATE = (
    (), (0, 0, 0),
    VOTES + (
        ('begin', 1, 'b', 1, 'lit'), ('vote', 1, 'c', 0, 'on'), ('learn', 2, 'b', ('a', 'b'), 0, 'on'), ('told', 2, 3, 'c', 1),
        ('answer', 2, 3, 1),
    ),
)
LEASED = (
    (), (0, 0, 0),
    (
        ('promise', 3, 'b', 2), ('says', 3, 'b', 2, 0), ('promise', 3, 'c', 2), ('says', 3, 'c', 2, 0), ('begin', 10, 'a', 2, 'lit'),
        ('answer', 10, 4, 0),
    ),
)
SLEPT = ((), (0, 0, 0), VOTES + (('sleep', 2, 'a'), ('count', 3, 'a', 0, 0, 1)))
SOUND = (LAMP, CALM, NEAR, (('a', ('lit',), ('a', 'b'), 'any', ()), ('a', ('lit',), (), 10, (('b', 12), ('c', 12)))), (('a', 1),))
WRONG = (LAMP, CALM, NEAR, (('b', ('lit',), ('c',), 'any', ()), ('a', ('lit',), (), 10, (('b', 11), ('c', 12)))), ())
TORN = (LAMP, THREE, (), (), ())
# Something of each sort is wrong here: two lots, a rule of looking, and one of waking.
ALL = (TURN, THREE, NEAR, (('b', LIT, ('c',), 'any', ()), ('a', LIT, ('a', 'b', 'c'), 'any', ())), (('c', 1), ('a', 2)))
MIXED = (TURN, CALM, NEAR, (('a', LIT, ('b',), 10, (('c', 12),)),), (('a', 2), ('b', 2)))
DIGITS60 = 10 ** 60 - 1
DEEP = ()
for _ in range(39):
    DEEP = (DEEP,)

# Values of any kind, none of which is a machine, a trust or a book.
ODD = [
    None, True, False, 0, 1, 2, 5, -1, DIGITS60, -DIGITS60, '', 'a', 'b', 'c', 'off', 'on', 'lit', 'any', 'A',
    'abcdefgh', 'abcdefghi', 'a1', 'a b', 'a\n', '-', 'down', 'up', 'zz', '0', (), ((),), ('a',), ('b', 'a'),
    ('a', 'a'), ('a', 'b'), ('any',), ('off',), ('off', 'on'), ('on', 'off'), ('lit',), ('up', 'up'), (None,),
    (True,), (False, True), (0,), (1, 0), (0, 1), (1, True), (0, 0), [], [[]], ['a'], ['off', 'on'], ['lit'], [0, 1],
    ([],), ('a', []), ('off', ['on']), (['lit'],), (('a', ['b']),), ((0, 1), [1, 0]), ([0, 1], (1, 0)), DEEP,
    (('a', 'b'),), (('a', 1),), (('a', 'b', 2),), ('a', 'b', 2), ('a', 2), ('', ''), ('A',), ('zz',),
]


def set_in(value, path, part):
    """The value with the part at this path, a row of indexes, in the place of its own."""
    if not path:
        return part
    parts = list(value)
    parts[path[0]] = set_in(parts[path[0]], path[1:], part)
    return tuple(parts) if isinstance(value, tuple) else parts


def paths_in(value):
    """The path of each part at any depth, the whole first."""
    yield ()
    if isinstance(value, (tuple, list)):
        for k, part in enumerate(value):
            for path in paths_in(part):
                yield (k,) + path


def part_at(value, path):
    for k in path:
        value = value[k]
    return value


def changes_of(value):
    """Values that differ from this one in one place: of another kind, left out, doubled, turned."""
    for path in paths_in(value):
        part = part_at(value, path)
        others = [None, True, False, '', 'a', 'any', 'A', 0, 1, -1, DIGITS60, (), [], ('a',), ['a'], ((),)]
        if isinstance(part, int):
            others += [bool(part), part + 1, part - 1, str(part), (part,), [part]]
        if isinstance(part, str):
            others += [part + 'a', part + 'A', part + '1', part.upper(), 'z' + part, (part,), [part], part[:-1]]
        if isinstance(part, tuple):
            others += [list(part), part[::-1], part + part, part[1:], part[:-1], part + (None,), part + ([],)]
            others += [(part,), part + part[-1:], part[:1] + part, part + ('zz',), part + (0,), part + ((),)]
        for other in others:
            yield set_in(value, path, other)


def machine_by_turns(random, states, letters=2, looks=1, numbers=2):
    names = ('down', 'left', 'right', 'up')[:letters], ('far', 'near', 'sun')[:looks]
    moves = tuple(tuple(random.randrange(states) for _ in range(letters)) for _ in range(states))
    answers = tuple(tuple(random.randrange(numbers) for _ in range(looks)) for _ in range(states))
    return names + (moves, answers)


def small_machines(many=150, most=3, seed=1):
    """Machines of at most this many states, always the same ones."""
    random = Random(seed)
    for k in range(many):
        yield machine_by_turns(random, 1 + k % most, 2 + (k % 7 == 0), 1 + k % 2, 2 + k % 2)


def large_machines(many=40, seed=2):
    random = Random(seed)
    for k in range(many):
        yield machine_by_turns(random, 6, 4, 3, 2 + k % 2)


def some_of(random, things):
    return tuple(thing for thing in things if random.random() < 0.5)


def set_of(values):
    return tuple(sorted(set(values)))


def trust_by_turns(random, many):
    houses = ('a', 'b', 'c', 'd', 'e')[:many]
    trust = []
    for house in houses:
        lots = set_of([some_of(random, houses) or (random.choice(houses),) for _ in range(random.randint(1, 4))])
        others = [other for other in houses if other != house]
        trust.append((house, lots, set_of([some_of(random, others) for _ in range(random.randint(1, 4))])))
    return tuple(trust)


def trusts(many=60, seed=3):
    random = Random(seed)
    for k in range(many):
        yield trust_by_turns(random, 1 + k % 5)


def full_trusts(many=20, seed=5):
    """Trusts of five houses with four lots and three fears for each, some with few odds."""
    random = Random(seed)
    houses = ('a', 'b', 'c', 'd', 'e')
    for k in range(many):
        most = 1 + k % 3
        trust = []
        for house in houses:
            lots, fears = set(), set()
            while len(lots) < 4:
                lots.add(tuple(sorted(random.sample(houses, random.randint(1 + k % 4, 4)))) if k % 4 < 3 else houses[:1] + some_of(random, houses[1:]))
            others = [other for other in houses if other != house]
            while len(fears) < 3:
                fears.add(tuple(sorted(random.sample(others, random.randint(0 if k % 2 else 1, most)))))
            trust.append((house, set_of(lots), set_of(fears)))
        yield tuple(trust)


def renamed_houses(trust, names):
    late = dict(zip([entry[0] for entry in trust], names))
    sets = lambda told: tuple(tuple(late[house] for house in one) for one in told)
    return tuple((late[house], sets(lots), sets(fears)) for house, lots, fears in trust)


ABC, BOUNDS = ('a', 'b', 'c'), (('a', 'b', 2), ('b', 'c', 3), ('c', 'a', 1), ('a', 'c', 9))
TABLE = (('a', 'b', 2), ('a', 'c', 5), ('b', 'a', 4), ('b', 'c', 3), ('c', 'a', 1), ('c', 'b', 3))


def bounds_by_turns(random, houses, many, low=-2, high=4):
    pairs = [(one, other) for one in houses for other in houses if one != other]
    return tuple(random.choice(pairs) + (random.randint(low, high),) for _ in range(many if pairs else 0))


def some_bounds(many=150, seed=7):
    """Houses and bounds of them: few and many, with pairs that have several, with and without rings."""
    random = Random(seed)
    for k in range(many):
        houses = ('a', 'b', 'c', 'd', 'e')[: 1 + k % 5]
        yield houses, bounds_by_turns(random, houses, random.randint(0, 3 + 2 * len(houses)), -random.randint(0, 4), random.randint(1, 6))
