"""Points 54, 85: events by form, for whatever book."""

from actasone.liveevents import is_event
from tests import plain
from tests.cases import Case
from tests.drawnruns import drawn_runs
from tests.samples import DIGITS60, LATE, LEASED, ODD, PLAIN, SLEPT, changes_of

EVENTS = (
    ('vote', -3, 'a', 0, 'on'), ('learn', 1, 'b', ('a', 'b'), 11, 'off'), ('sleep', 0, 'abcdefgh'), ('wake', 2, 'c'), ('count', 0, 'a', 4, 5, 6),
    ('begin', DIGITS60, 'a', 0, 'lit'), ('told', -DIGITS60, 99, 'z', DIGITS60), ('answer', 1, 0, 7), ('promise', 1, 'b', 3), ('says', 1, 'b', 3, 0),
)
PARTS = {
    'vote': 'in#n', 'learn': 'inL#n', 'sleep': 'in', 'wake': 'in', 'count': 'in###', 'begin': 'in#n', 'told': 'i#n#', 'answer': 'i##', 'promise': 'in#',
    'says': 'in##',
}
JUDGES = {'i': plain.is_integer, '#': plain.is_number, 'n': plain.is_name, 'L': lambda value: plain.is_set(value, plain.is_name) and value != ()}


def is_one(value):
    """Told by a letter for each part behind the word."""
    if type(value) is not tuple or not value or type(value[0]) is not str or value[0] not in PARTS:
        return False
    parts = PARTS[value[0]]
    return len(value) == 1 + len(parts) and all(JUDGES[part](late) for part, late in zip(parts, value[1:]))


class Events(Case):
    def test_all_sorts(self):
        for event in EVENTS:
            self.same(is_event(event), True)
        self.assertEqual({event[0] for event in EVENTS}, set(PARTS))
        for run in (PLAIN, LATE, LEASED, SLEPT):
            for event in run[2]:
                self.same(is_event(event), True)

    def test_drawn(self):
        for _, run in drawn_runs(2):
            self.assertTrue(all(is_event(event) for event in run[2]))

    def test_changes(self):
        seen = {True: 0, False: 0}
        for event in EVENTS:
            for thing in changes_of(event):
                self.same(is_event(thing), is_one(thing))
                seen[is_one(thing)] += 1
            for other in EVENTS:
                self.same(is_event((other[0],) + event[1:]), is_one((other[0],) + event[1:]))
        self.assertGreater(min(seen.values()), 100)

    def test_other_kinds(self):
        for thing in ODD + [[], list(EVENTS[0]), ('vote',), ('Vote',) + EVENTS[0][1:], (['vote'],) + EVENTS[0][1:], ((), 1, 'a'), ({}, 1, 'a'), {'vote': 1}]:
            self.same(is_event(thing), False)
            self.same(is_event(thing=thing), False)

    def test_names(self):
        for name, wanted in (('any', False), ('anyx', True), ('abcdefghi', False), ('', False), ('A', False), ('a1', False), ('an', True)):
            self.same(is_event(('sleep', 0, name)), wanted)
            self.same(is_event(('learn', 0, 'a', (name,), 0, 'b')), wanted)
            self.same(is_event(('learn', 0, 'a', ('a', 'b'), 0, name)), wanted)
            self.same(is_event(('told', 0, 0, name, 0)), wanted)
            self.same(is_event(('begin', 0, 'a', 0, name)), wanted)
        for lot, wanted in ((('a', 'b'), True), (('b', 'a'), False), (('a', 'a'), False), ((), False), (['a'], False), ('ab', False), (('a', 1), False)):
            self.same(is_event(('learn', 0, 'a', lot, 0, 'b')), wanted)
