"""Points 8, 54: what is a run by form."""

from actasone.runkinds import is_run
from tests import plainruns
from tests.cases import Case
from tests.drawnruns import BOOKS, drawn_runs
from tests.samples import BOOK, DIGITS60, LATE, LEASED, ODD, PLAIN, SLEPT, changes_of, set_in

HEAD = ('begin', 1, 'a', 2, 'lit')
# Behind the first event, for each kind of event one that can stand there.
KINDS = {
    'vote': ('vote', 5, 'b', 3, 'on'),
    'learn': ('learn', 5, 'b', ('a', 'c'), 3, 'on'),
    'sleep': ('sleep', 5, 'b'),
    'wake': ('wake', 5, 'b'),
    'count': ('count', 5, 'a', 0, 3, 1),
    'begin': ('begin', 5, 'b', 1, 'lit'),
    'told': ('told', 5, 0, 'c', 3),
    'answer': ('answer', 5, 0, 3),
    'promise': ('promise', 5, 'b', 2),
    'says': ('says', 5, 'c', 3, 4),
}


def run_of(*events):
    return ((), (0, 0, 0), (HEAD,) + events)


class Kinds(Case):
    def look_at(self, thing, book=BOOK):
        self.same(is_run(book, thing), plainruns.is_run(book, thing))
        return is_run(book, thing)

    def test_runs(self):
        for run in (PLAIN, LATE, LEASED, SLEPT, ((), (0, 0, 0), ())):
            self.same(is_run(BOOK, run), True)

    def test_each_kind(self):
        for event in KINDS.values():
            self.assertTrue(self.look_at(run_of(event)))

    def test_what_cannot_happen_is_a_run_by_form(self):
        """Neither what lies, nor what sleeps, nor the order of times is looked at, nor the clocks."""
        for event in KINDS.values():
            self.same(is_run(BOOK, (('a', 'b', 'c'), (0, 99, -99), (HEAD, event, event, ('sleep', -7, 'b'), event))), True)

    def test_each_part_otherwise(self):
        for event in KINDS.values():
            for at in range(len(event)):
                for value in ODD + [-1, -DIGITS60, 3, 4, 'd', 'dim', 'A', ('a', 'd'), ['a', 'c'], ('b', 'a'), 'votes', 'Vote']:
                    self.look_at(run_of(set_in(event, (at,), value)))
            for late in (event + (0,), event[:-1], event[1:], list(event), event + (None,), (event,), event * 2):
                self.same(is_run(BOOK, run_of(late)), False)

    def test_true_is_not_one(self):
        for event in KINDS.values():
            for at, part in enumerate(event):
                if isinstance(part, int):
                    self.same(is_run(BOOK, run_of(set_in(event, (at,), True))), False)
                    self.same(is_run(BOOK, run_of(set_in(event, (at,), False))), False)
        for setting in ((0, 0, False), (True, 0, 0), (0, 0), (0, 0, 0, 0), [0, 0, 0], (0, 0, None), None, 0, ('0', 0, 0), (), 'abc'):
            self.same(is_run(BOOK, ((), setting, ())), False)

    def test_times_and_numbers(self):
        for number, wanted in ((0, True), (DIGITS60, True), (-1, False), (-DIGITS60, False)):
            for event in (
                ('vote', 0, 'b', number, 'on'), ('learn', 0, 'b', ('a', 'c'), number, 'on'), ('count', 0, 'a', 0, number, 1),
                ('told', 0, 0, 'c', number), ('answer', 0, 0, number), ('says', 0, 'b', 2, number),
            ):
                self.same(is_run(BOOK, run_of(event)), wanted)
        for time in (-DIGITS60, -1, 0, DIGITS60):
            self.same(is_run(BOOK, run_of(('sleep', time, 'a'))), True)

    def test_begun(self):
        """The index of an event begin that is ahead of it."""
        for events, wanted in (
            (((HEAD, ('told', 5, 0, 'c', 3))), True), ((('told', 5, 0, 'c', 3), HEAD), False), ((('told', 5, 1, 'c', 3), HEAD), False),
            ((HEAD, ('told', 5, 1, 'c', 3)), False), ((HEAD, ('told', 5, -1, 'c', 3)), False), ((HEAD, ('sleep', 5, 'b'), ('answer', 5, 1, 3)), False),
            ((HEAD, HEAD, ('answer', 5, 1, 3)), True), ((('answer', 5, 0, 3),), False), ((HEAD, ('answer', 5, False, 3)), False),
            ((('sleep', 5, 'b'), HEAD, ('answer', 5, True, 3)), False), ((('sleep', 5, 'b'), HEAD, ('answer', 5, 1, 3)), True),
            ((('sleep', 5, 'b'), HEAD, ('told', 5, 0, 'a', 3)), False), ((('begin',), ('told', 5, 0, 'a', 3)), False),
            ((['begin', 1, 'a', 2, 'lit'], ('told', 5, 0, 'a', 3)), False), (('begin', ('told', 5, 0, 'a', 3)), False),
        ):
            self.same(is_run(BOOK, ((), (0, 0, 0), events)), wanted)

    def test_rules_are_of_the_house(self):
        for event, wanted in (
            (('begin', 1, 'b', 1, 'lit'), True), (('begin', 1, 'a', 1, 'lit'), False), (('begin', 1, 'b', 0, 'lit'), False),
            (('begin', 1, 'a', 4, 'lit'), False), (('begin', 1, 'c', 0, 'lit'), False), (('begin', 1, 'a', -1, 'lit'), False),
            (('count', 1, 'b', 0, 0, 0), False), (('count', 1, 'a', 1, 0, 0), False), (('count', 1, 'a', 0, 0, 2), False),
            (('promise', 1, 'a', 2), False), (('promise', 1, 'b', 0), False), (('promise', 1, 'b', 4), False), (('promise', 1, 'c', 3), True),
            (('says', 1, 'a', 2, 0), False), (('says', 1, 'b', 1, 0), False), (('says', 1, 'b', 3, 0), True),
        ):
            self.same(is_run(BOOK, run_of(event)), wanted)
        book = BOOKS['dial']
        for event, wanted in (
            (('begin', 1, 'a', 0, 'high'), True), (('begin', 1, 'a', 3, 'high'), False), (('begin', 1, 'a', 3, 'low'), True),
            (('begin', 1, 'b', 1, 'high'), False), (('begin', 1, 'b', 1, 'up'), False), (('count', 1, 'c', 2, 0, 2), True),
            (('count', 1, 'c', 1, 0, 2), False), (('count', 1, 'a', 1, 0, 3), False), (('count', 1, 'b', 2, 0, 0), False),
        ):
            self.same(is_run(book, ((), (0, 0, 0), (event,))), wanted)

    def test_lots_are_of_the_house(self):
        book = BOOKS['fearing']
        for house, lot, wanted in (
            ('a', ('b',), True), ('b', ('b',), False), ('c', ('a', 'c'), False), ('b', ('a', 'c'), True), ('a', ('a', 'b', 'c'), False), ('a', (), False),
        ):
            self.same(is_run(book, ((), (0, 0, 0), (('learn', 1, house, lot, 0, 'turn'),))), wanted)

    def test_the_whole(self):
        for thing in ODD + [
            PLAIN[:2], PLAIN + ((),), list(PLAIN), (('d',),) + PLAIN[1:], (['a'],) + PLAIN[1:], (('b', 'a'),) + PLAIN[1:], (None,) + PLAIN[1:],
            PLAIN[:2] + (list(PLAIN[2]),), PLAIN[:2] + (None,), PLAIN[:2] + ('events',), PLAIN[:2] + ((None,),), PLAIN[:2] + ((),) * 2,
        ]:
            self.same(is_run(BOOK, thing), False)
        self.same(is_run(BOOK, (('a', 'b', 'c'), (0, 0, 0), ())), True)

    def test_changed_in_one_place(self):
        for run in (LEASED, SLEPT, (('b',), (0, 1, 0), (HEAD,) + tuple(KINDS.values())[-4:])):
            told = {self.look_at(thing) for thing in changes_of(run)}
            self.assertEqual(told, {True, False})

    def test_drawn(self):
        for book, run in drawn_runs(4):
            self.assertTrue(self.look_at(run, book))

    def test_another_book(self):
        self.same([is_run(BOOKS['fearing'], PLAIN), is_run(BOOKS['alone'], PLAIN)], [False, False])

    def test_no_book(self):
        for book in (None, BOOK[:4], list(BOOK), (), 'book'):
            self.refused('book', is_run, book, PLAIN)
            self.refused('book', is_run, book, None)
