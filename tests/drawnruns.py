"""Books, and runs of them that are drawn, event by event, always the same ones."""

from random import Random

from tests import plain, plainruns
from tests import plainclocks as plainly
from tests.samples import BOOK, DIAL, FOUR, LAMP, LONE, PAIRS, THREE, TURN, WIDE, some_of

CLOSE = (('a', 'b', 1), ('a', 'c', 1), ('b', 'a', 1), ('b', 'c', 1), ('c', 'a', 0), ('c', 'b', 1))
ONE = (('a', (('a',),), ((),)),)
# Each house learns what it voted for itself, or what others did.
TORN = (('a', (('a',), ('b', 'c')), ((),)), ('b', (('b',),), (('c',),)), ('c', (('a',), ('c',)), ((), ('b',))))
# a and c each fear b, who fears nobody: by the fall (b) they are safe, by (c) nobody but a.
FEARING = (
    ('a', (('a', 'b'), ('a', 'c'), ('b',)), (('b',), ('c',))),
    ('b', PAIRS, ((),)),
    ('c', (('a', 'b'), ('b', 'c')), (('b',),)),
)
BOOKS = {
    'lamp': BOOK,
    'dial': (
        DIAL, THREE, CLOSE,
        (
            ('a', ('high', 'low'), ('b', 'c'), 'any', ()), ('b', ('low',), ('a',), 6, (('a', 4), ('c', 3))), ('c', ('high',), (), 9, ()),
            ('a', ('low',), ('a',), 8, (('a', 5), ('b', 2))),
        ),
        (('a', 1), ('a', 2), ('c', 1)),
    ),
    'fearing': (TURN, FEARING, (), (('a', ('lit',), ('b',), 'any', ()), ('c', ('lit',), ('a', 'b'), 12, (('b', 5),))), (('c', 1), ('b', 2))),
    'alone': (LAMP, ONE, (), (('a', ('lit',), (), 'any', ()), ('a', ('lit',), ('a',), 5, (('a', 2),))), (('a', 1),)),
    'lone': (TURN, LONE, (('a', 'b', 0), ('b', 'a', 0)), (('a', ('lit',), ('a', 'b'), 20, ()), ('b', ('lit',), (), 'any', ())), (('b', 2),)),
    'torn': (TURN, TORN, CLOSE, (('a', ('lit',), (), 'any', ()), ('b', ('lit',), ('c',), 15, (('a', 3), ('b', 4)))), (('a', 1), ('c', 3))),
    'four': (WIDE, FOUR, (), (('a', ('far', 'sun'), ('b', 'd'), 'any', ()), ('d', ('near',), (), 8, (('a', 3), ('b', 6)))), (('d', 2), ('b', 1))),
}


def settings_of(random, book):
    """A setting that fits, near nought."""
    houses = plain.houses_of(book[1])
    while True:
        setting = tuple(random.randint(-2, 2) for _ in houses)
        if plainly.keeps(houses, book[2], setting):
            return setting


def drawn_event(random, book, events, time):
    """Some event by form or nearly so, that may be let or not."""
    machine, trust, _, looking, waking = book
    house, lots, _ = random.choice(trust)
    place = random.choice((0, 0, 0, 1, 1, 2, 3))
    # Mostly one and the same letter for a place, so that letters are learned.
    letter = machine[0][place % len(machine[0])] if random.random() < 0.75 else random.choice(machine[0])
    begun = [k for k, event in enumerate(events) if event[0] == 'begin']
    teller = random.choice(trust)[0]
    number = plainruns.to_tell(events, teller) if random.random() < 0.8 else random.randint(0, 3)
    kind = random.choice(
        ['vote'] * 6 + ['learn'] * 8 + ['sleep'] + ['wake', 'count', 'count'] + ['begin'] * 2 + ['told'] * 4 + ['answer'] * 5 + ['promise', 'says', 'says']
    )
    if kind == 'count' and not waking:
        kind = 'wake'
    rule = random.randrange(len(looking))
    if kind == 'vote':
        return ('vote', time, house, place, letter)
    if kind == 'learn':
        return ('learn', time, house, random.choice(lots), place, letter)
    if kind in ('sleep', 'wake'):
        return (kind, time, house)
    if kind == 'count':
        k = random.randrange(len(waking))
        return ('count', time, waking[k][0], k, place, random.randrange(len(machine[2])))
    if kind == 'begin':
        return ('begin', time, looking[rule][0], rule, random.choice(looking[rule][1]))
    if kind in ('told', 'answer') and begun:
        at = random.choice(begun[-2:])
        if kind == 'told':
            lot = looking[events[at][3]][2]
            teller = random.choice(lot) if lot else teller
            number = plainruns.to_tell(events, teller) if random.random() < 0.8 else number
            return ('told', time, at, teller, number)
        return ('answer', time, at, random.choice(machine[3])[0] if random.random() < 0.1 else right_answer(book, events, at))
    promises = looking[rule][4]
    teller = random.choice(promises)[0] if promises else teller
    if kind == 'says' and random.random() < 0.8:
        number = plainruns.to_tell(events, teller)
    return ('promise', time, teller, rule) if kind == 'promise' else ('says', time, teller, rule, number)


def right_answer(book, events, at):
    state = plainruns.state(book, events, events[at][2])
    return plain.answers(book[0], 0 if state is None else state, (events[at][4],))[0]


# Which of the kinds of events that can happen is taken, mostly.
WEIGHTS = {
    'answer': 9, 'learn': 9, 'told': 4, 'says': 3, 'promise': 2, 'begin': 2, 'vote': 3, 'count': 5, 'wake': 4, 'sleep': 1,
}


def drawn_run(random, book, many, seen=None):
    """A run of at most so many events; seen is called for each event that was tried, let or not."""
    houses = plain.houses_of(book[1])
    fall = random.choice([(), (), some_of(random, houses), random.choice([fear for _, _, fears in book[1] for fear in fears])])
    setting = settings_of(random, book)
    events, time = (), random.randint(-2, 1)
    for _ in range(many + 9):
        time += random.random() < 0.3
        found = {}
        for _ in range(12):
            event = drawn_event(random, book, events, time)
            word = plainruns.fault(book, fall, setting, events + (event,), len(events))
            if seen is not None:
                seen((fall, setting, events + (event,)), word)
            if word is None:
                found[event[0]] = event
        if found:
            kinds = sorted(found)
            events += (found[random.choices(kinds, [WEIGHTS[kind] for kind in kinds])[0]],)
    return (fall, setting, events[:many])


def drawn_runs(many=20, length=40, seed=60):
    for name, book in BOOKS.items():
        random = Random(seed)
        for _ in range(many):
            yield book, drawn_run(random, book, length)


def sleepless_runs(many=20, length=30, seed=61):
    """Runs of the same books without their rules of waking: an age can be told for these."""
    for name, book in BOOKS.items():
        random = Random(seed)
        for _ in range(many):
            yield book[:4] + ((),), drawn_run(random, book[:4] + ((),), length)
