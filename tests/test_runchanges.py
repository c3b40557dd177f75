"""Points 55, 61, 71 to 73: runs that are made of runs."""

from itertools import combinations
from random import Random

from actasone.inruns import greatest_in, height_in, state_in
from actasone.looksinruns import looks_in
from actasone.oneness import first_break, run_is_one
from actasone.runchanges import moved, shortened, without_events
from actasone.runchecker import lets_run
from actasone.shownruns import run_of_odds, run_of_rule, run_of_waking
from tests import plain, plainruns
from tests.cases import Case
from tests.drawnbooks import drawn_books
from tests.drawnruns import drawn_runs, sleepless_runs
from tests.samples import MIXED, BOOK, CALM, DIGITS60, LAMP, LATE, LEASED, LONE, NEAR, ODD, PLAIN, ROUND, THREE

FREE = BOOK[:4] + ((),)


def left(run, indexes):
    """The run without these events, told plainly; None if one that stays names one of them."""
    events = []
    for k, event in enumerate(run[2]):
        if k in indexes:
            continue
        if event[0] in ('told', 'answer'):
            if event[2] in indexes:
                return None
            gone = len([index for index in indexes if index < event[2]])
            event = event[:2] + (event[2] - gone,) + event[3:]
        events.append(event)
    return run[:2] + (tuple(events),)


def is_let(book, run):
    return type(plainruns.lets_run(book, run)) is list


def lines_of(run):
    """The events of a run, each with what it names in the place of an index."""
    return [event[:2] + (run[2][event[2]],) + event[3:] if event[0] in ('told', 'answer') else event for event in run[2]]


class Moved(Case):
    def test_example(self):
        self.same(moved(BOOK, PLAIN, 5)[1], (5, 5, 5))

    def test_drawn(self):
        for book, run in drawn_runs(5):
            for by in (0, 1, -9, DIGITS60):
                late = moved(book, run, by)
                self.same(late, (run[0], tuple(shift + by for shift in run[1]), tuple((event[0], event[1] + by) + event[2:] for event in run[2])))
                self.same(lets_run(book, late), len(run[2]))
                self.same(run_is_one(book, late), run_is_one(book, run))
                self.same(looks_in(book, late), looks_in(book, run))
                for house in plain.houses_of(book[1]):
                    for call in (height_in, greatest_in, state_in):
                        self.same(call(book, late, house), call(book, run, house))
                self.same(moved(book, late, -by), run)

    def test_refused(self):
        for by in [value for value in ODD if not plain.is_integer(value)]:
            self.refused('by', moved, BOOK, PLAIN, by)
            self.refused('run', moved, BOOK, PLAIN[:2], by)
            self.refused('book', moved, BOOK[:4], PLAIN[:2], by)
        self.same(moved(by=True + 1, run=PLAIN, book=BOOK), moved(BOOK, PLAIN, 2))


class Without(Case):
    def test_example(self):
        self.same(without_events(BOOK, PLAIN, (4, 5))[2][-1], ('begin', 1, 'b', 1, 'lit'))
        self.refused('indexes', without_events, BOOK, PLAIN, (3,))

    def test_all_sets(self):
        """Of all sets of events: without these the run is let, or the set is refused."""
        seen = {True: 0, False: 0, None: 0}
        for book, run in ((BOOK, PLAIN), (BOOK, LATE), (BOOK, LEASED)):
            for many in range(len(run[2]) + 1):
                for indexes in combinations(range(len(run[2])), many):
                    late = left(run, indexes)
                    good = None if late is None else is_let(book, late)
                    seen[good] += 1
                    if good:
                        self.same(without_events(book, run, indexes), late)
                    else:
                        self.refused('indexes', without_events, book, run, indexes)
        self.assertGreater(min(seen.values()), 40)

    def test_drawn(self):
        random, many = Random(100), 0
        for book, run in drawn_runs(9):
            for _ in range(12):
                indexes = tuple(sorted(random.sample(range(len(run[2])), min(len(run[2]), random.randint(1, 4)))))
                late = left(run, indexes)
                if late is None or not is_let(book, late):
                    self.refused('indexes', without_events, book, run, indexes)
                else:
                    self.same(without_events(book, run, indexes), late)
                    many += any(event[0] in ('told', 'answer') and event not in run[2] for event in late[2])
            self.same(without_events(book, run, ()), run)
            if run[2]:
                self.same(without_events(book, run, (len(run[2]) - 1,)), run[:2] + (run[2][:-1],))
        self.assertGreater(many, 5)

    def test_indexes_stand_for_the_same_events(self):
        """Of two looks the first one goes: the events of the other one name it by its new index."""
        events = (
            ('begin', 0, 'b', 1, 'lit'), ('begin', 0, 'b', 1, 'lit'), ('told', 0, 0, 'c', 0), ('told', 0, 1, 'c', 0), ('answer', 0, 1, 0), ('answer', 0, 0, 0),
        )
        run = ((), (0, 0, 0), events)
        self.same(without_events(BOOK, run, (0, 2, 5))[2], (('begin', 0, 'b', 1, 'lit'), ('told', 0, 0, 'c', 0), ('answer', 0, 0, 0)))
        self.same(without_events(BOOK, run, (1, 3, 4))[2], (('begin', 0, 'b', 1, 'lit'), ('told', 0, 0, 'c', 0), ('answer', 0, 0, 0)))
        self.refused('indexes', without_events, BOOK, run, (0, 2))
        self.refused('indexes', without_events, BOOK, run, (3,))

    def test_refused(self):
        good = [(), (4, 5), (5,), (1, 2, 3, 4, 5), (0, 1, 2, 3, 4, 5)]
        for indexes in ODD + [(5, 4), (5, 5), (6,), (-1,), [5], (True,), (False,), (5.0,), ('5',), (5, None), ([5],), (4, 5, 60)]:
            if not isinstance(indexes, tuple) or indexes not in good or any(type(part) is bool for part in indexes):
                self.refused('indexes', without_events, BOOK, PLAIN, indexes)
            self.refused('run', without_events, BOOK, PLAIN[:2], indexes)
            self.refused('book', without_events, None, PLAIN[:2], indexes)
        for indexes in good:
            self.same(without_events(indexes=indexes, run=PLAIN, book=BOOK), left(PLAIN, indexes))


class Shortened(Case):
    def is_short(self, book, run, age=0):
        late = shortened(book, run, age=age)
        self.same(late[:2], run[:2])
        self.same(run_is_one(book, late, age=age), False)
        self.assertTrue(is_let(book, late))
        self.assertTrue(self.comes_of(run, late))
        for k in range(len(late[2])):
            less = left(late, (k,))
            if less is not None and is_let(book, less):
                self.same(run_is_one(book, less, age=age), True)
        return late

    def comes_of(self, run, late):
        """Whether the events stand, each naming the same ones, in this order among those of the run."""
        told = iter(lines_of(run))
        return all(any(event == other for other in told) for event in lines_of(late))

    def test_example(self):
        self.same(len(shortened(BOOK, PLAIN)[2]), 6)

    def test_drawn(self):
        many = 0
        for runs, ages in ((drawn_runs(20), (0,)), (sleepless_runs(12), (0, 1, 2))):
            for book, run in runs:
                for age in ages:
                    if run_is_one(book, run, age=age):
                        self.refused('run', shortened, book, run, age=age)
                    else:
                        many += len(self.is_short(book, run, age)[2]) < len(run[2])
        self.assertGreater(many, 25)

    def test_shown(self):
        """Runs that show what is wrong have more than they need, mostly."""
        for book in (BOOK, (ROUND, CALM, NEAR, (('b', ('day', 'hour'), ('c',), 'any', ()),) * 2, ())):
            self.is_short(book, run_of_rule(book, 1))
        self.is_short(MIXED, run_of_waking(MIXED, 0))
        self.same(len(self.is_short((LAMP, THREE, NEAR, (), ()), run_of_odds((LAMP, THREE, NEAR, (), ()), ('a', 1), ('b', 2)))[2]), 4)
        lone = (LAMP, LONE, (), (), ())
        self.same(len(self.is_short(lone, run_of_odds(lone, ('a', 0), ('a', 0)))[2]), 4)

    def test_what_stands_beside(self):
        """Events that have nothing to do with it go."""
        more = (('vote', 0, 'c', 7, 'off'), ('begin', 0, 'a', 2, 'lit'), ('sleep', 0, 'c'), ('wake', 0, 'c')) + PLAIN[2][:3]
        more += (('begin', 1, 'b', 1, 'lit'), ('begin', 1, 'b', 1, 'lit'))
        run = ((), (0, 0, 0), more[1:] + (('told', 1, 7, 'c', 0), ('answer', 1, 7, 0), ('sleep', 4, 'a')))
        self.same(lets_run(BOOK, run), 11)
        self.same(self.is_short(BOOK, run), PLAIN)

    def test_refused(self):
        """A run that is as one with the age is refused behind all else."""
        self.refused('run', shortened, BOOK, LATE)
        self.refused('run', shortened, FREE, PLAIN, age=1)
        self.refused('age', shortened, FREE, LATE, age=-1)
        self.refused('age', shortened, BOOK, LATE, age=1)
        self.refused('run', shortened, BOOK, LATE[:2], age=1)
        self.refused('book', shortened, BOOK[:4], LATE, age=None)
        for age in [value for value in ODD if not plain.is_number(value)]:
            self.refused('age', shortened, FREE, PLAIN, age=age)
        self.same(shortened(age=0, run=PLAIN, book=BOOK), PLAIN)


class Consequences(Case):
    def test_books_with_more_rules(self):
        """A run stays one where all rules stand at the same indexes."""
        for book, run in drawn_runs(3):
            more = book[:3] + (book[3] + (book[3][0],), book[4] + (book[4][0],))
            self.same(lets_run(more, run), len(run[2]))
            self.same(first_break(more, run), first_break(book, run))

    def test_greater_gaps(self):
        """A setting that fits greater gaps need not fit lesser ones."""
        wide = ((), (0, 2, 0), ())
        self.same(lets_run(BOOK, wide), 0)
        self.wrong('setting', -1, lets_run, BOOK[:2] + ((('a', 'b', 1), ('b', 'a', 2)),) + BOOK[3:], wide)

    def test_looks_of_houses_that_are_not_safe(self):
        """Nothing is judged of them."""
        for book, run in drawn_runs(6):
            unsafe = [house for house in plain.houses_of(book[1]) if not plain.is_safe(book[1], house, run[0])]
            self.assertFalse(any(look[1] in unsafe for look in looks_in(book, run)))

    def test_books_that_were_drawn(self):
        for book in drawn_books(20, seed=101):
            for rule in range(len(book[3])):
                run = run_of_rule(book, rule)
                if run is not None and len(run[2]) < 40:
                    self.same(run_is_one(book, moved(book, shortened(book, run), -3)), False)
