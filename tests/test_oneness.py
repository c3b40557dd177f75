"""Points 9, 61 to 63: runs that are as one, the rows that show it, and where they break."""

from functools import cache
from random import Random

from actasone.kinds import is_book
from actasone.oneness import first_break, run_is_one, run_row
from actasone.rowchecker import lets_row
from actasone.runchecker import lets_run
from tests import plain, plainruns, plainwhole
from tests.cases import Case
from tests.drawnbooks import SPAN, drawn_books
from tests.drawnruns import drawn_run, drawn_runs, sleepless_runs
from tests.samples import (
    BOOK, CALM, FOUR, LAMP, LATE, LEASED, LIT, NEAR, ODD, PAST, PLAIN, ROUND, SLEPT, TURN, VOTES, changes_of,
)

# Each house learns what it voted for itself, and answers without asking.
OWN = (('a', (('a',),), ((),)), ('b', (('b',),), (('c',),)), ('c', (('c',),), ((),)))
ASKS = tuple((house, LIT, (), 'any', ()) for house in ('a', 'b', 'c'))
LAMPS = (LAMP, OWN, (), ASKS, ())
TURNS = (TURN, OWN, (), ASKS, (('a', 1), ('a', 2)))
# Books that are as one, some of them with rules of waking.
SOUND = [
    (LAMP, CALM, NEAR, (('a', LIT, ('a', 'b'), 'any', ()), ('b', LIT, ('a',), 4, (('c', 6),))), (('a', 1), ('b', 1))),
    (PAST, CALM, NEAR, (('a', ('new', 'old'), ('b', 'c'), 'any', ()), ('b', ('old',), ('a', 'b'), 3, ())), (('a', 2), ('b', 3))),
    (TURN, FOUR, (), (('a', LIT, ('a', 'b', 'd'), 'any', ()), ('d', LIT, ('a', 'b', 'c'), 9, (('a', 3),))), ()),
]
HOURS = (ROUND, OWN, (), tuple((house, ('hour',), (), 'any', ()) for house in ('a', 'b', 'c')), ())


def own(house, place, letter, time=0):
    return (('vote', time, house, place, letter), ('learn', time + 1, house, (house,), place, letter))


def asked(house, begun, look, number, time=9):
    return (('begin', time, house, 'abc'.index(house), look), ('answer', time, begun, number))


def run_of(*events, fall=()):
    return (fall, (0, 0, 0), events)


@cache
def all_drawn():
    """Drawn runs, each with an age and all rows of the least length with which it is as one."""
    found = []
    for runs, ages in ((drawn_runs(12), (0,)), (sleepless_runs(6), (0, 1, 2, 3))):
        for book, run in runs:
            if len(book[0][0]) ** plainruns.length(book, run) <= 700:
                for age in ages:
                    found.append((book, run, age, plainruns.rows_of_run(book, run, age)))
    return found


class Oneness(Case):
    def test_drawn(self):
        seen = {True: 0, False: 0, 'free': 0}
        for book, run, age, rows in all_drawn():
            row = run_row(book, run, age=age)
            self.same(run_is_one(book, run, age=age), rows != [])
            if rows:
                self.assertIn(row, rows)
                self.same(lets_row(book, run, row, age=age), len(plainruns.looks(book, run)))
                self.same(first_break(book, run, age=age), None)
            else:
                self.same(row, None)
                self.breaks(book, run, age)
            seen[rows != []] += 1
            seen['free'] += len(rows) > 1 and plainruns.looks(book, run) != ()
        self.assertGreater(min(seen.values()), 15, seen)

    def breaks(self, book, run, age):
        """The break is where the first beginning of the run that is not as one ends."""
        for k, event in enumerate(run[2]):
            if not plainruns.rows_of_run(book, run[:2] + (run[2][: k + 1],), age):
                self.same(first_break(book, run, age=age), ({'learn': 'learned', 'answer': 'look'}[event[0]], k))
                return

    def one(self, book, run, wanted, age=0):
        """Whether the run is as one, also told by all rows."""
        lets_run(book, run)
        self.same(run_is_one(book, run, age=age), wanted)
        self.assertEqual(plainruns.rows_of_run(book, run, age) != [], wanted)
        return run_row(book, run, age=age)

    def test_example(self):
        self.same(
            [run_is_one(BOOK, PLAIN), run_is_one(BOOK, LATE), run_row(BOOK, LATE), run_row(BOOK, PLAIN), first_break(BOOK, PLAIN)],
            [False, True, ('on',), None, ('look', 5)],
        )
        self.same(lets_row(BOOK, LATE, ('on',)), 1)
        self.same(run_is_one(BOOK[:4] + ((),), PLAIN, age=1), True)
        self.wrong('look', 5, lets_row, BOOK, PLAIN, ('on',))

    def test_nothing_happened(self):
        for run in (((), (0, 0, 0), ()), (('a', 'b', 'c'), (0, 0, 0), ()), LEASED):
            self.same([run_is_one(BOOK, run), run_row(BOOK, run), first_break(BOOK, run)], [True, (), None])

    def test_how_long_a_row_is(self):
        self.same(run_row(LAMPS, run_of(*own('a', 0, 'on'), *own('a', 1, 'off', 1))), ('on', 'off'))
        far = run_of(*own('a', 3, 'on'))
        self.same([len(run_row(LAMPS, far)), run_row(LAMPS, far)[3]], [4, 'on'])
        # A height that was had counts, though nobody has it any more.
        self.same(run_row(LAMPS, run_of(*own('a', 0, 'on'), ('sleep', 2, 'a'))), ('on',))
        woken = run_of(('vote', 0, 'a', 2, 'hold'), ('sleep', 0, 'a'), ('count', 0, 'a', 0, 2, 1), ('learn', 1, 'a', ('a',), 2, 'hold'))
        self.same(len(run_row(TURNS, woken)), 3)
        self.same(len(run_row(TURNS, run_of(*woken[2][:3]))), 0)
        # Houses that are not safe do not count.
        self.same(run_row(LAMPS, run_of(*own('a', 0, 'on'), fall=('c',))), ())
        self.same(run_row(LAMPS, run_of(*own('a', 0, 'on'), *own('b', 0, 'off', 1), fall=('c',))), ('off',))

    def test_unlike_letters(self):
        both = run_of(*own('a', 0, 'on'), *own('b', 0, 'off', 1))
        self.one(LAMPS, both, False)
        self.same(first_break(LAMPS, both), ('learned', 3))
        self.one(LAMPS, run_of(*own('a', 0, 'on'), *own('b', 0, 'off', 1), fall=('c',)), True)
        for age in (1, 5):
            self.one(LAMPS, both, False, age)
        again = run_of(('vote', 0, 'a', 0, 'on'), *own('b', 0, 'off'), ('learn', 1, 'a', ('a',), 0, 'on'), *own('c', 0, 'off', 2))
        self.same(first_break(LAMPS, again), ('learned', 3))

    def test_a_look_behind(self):
        """What b answers without having learned: by how many letters it may be behind."""
        letters = own('a', 0, 'tick') + own('a', 1, 'tick', 1)
        behind = run_of(*letters, *asked('b', 4, 'hour', 0))
        for age, wanted in ((0, False), (1, False), (2, True), (3, True), (60, True)):
            self.one(HOURS, behind, wanted, age)
            self.same(first_break(HOURS, behind, age=age), None if wanted else ('look', 5))
        self.same(run_is_one(HOURS, behind), False)
        # Three letters go round: then the machine answers as at first.
        self.one(HOURS, run_of(*letters, *own('a', 2, 'tock', 2), *asked('b', 6, 'hour', 0)), True)

    def test_a_look_that_lasts(self):
        """What is learned between begin and answer may count, or not; what is learned behind it not."""
        for ahead, between, wanted in (((), ('on',), True), (('off',), ('on',), True), (('on',), ('off',), True), (('on',), (), False), (('on',), ('on',), False)):
            events = ()
            for place, letter in enumerate(ahead):
                events += own('a', place, letter, place)
            begun = len(events)
            events += (('begin', 3, 'b', 1, 'lit'),)
            for place, letter in enumerate(between):
                events += own('a', len(ahead) + place, letter, 3 + place)
            events += (('answer', 5, begun, 0),)
            with self.subTest(ahead=ahead, between=between):
                self.one(LAMPS, run_of(*events), wanted)
        behind = run_of(*asked('b', 0, 'lit', 0, 0), *own('a', 0, 'on'), *own('a', 1, 'off', 1))
        self.one(LAMPS, behind, True)

    def test_a_look_that_nobody_safe_has(self):
        letters = own('c', 0, 'on')
        self.one(LAMPS, run_of(*letters, *asked('b', 2, 'lit', 0)), False)
        self.one(LAMPS, run_of(*own('a', 0, 'on'), *asked('b', 2, 'lit', 0), fall=('c',)), True)
        self.one(LAMPS, run_of(*own('b', 0, 'on'), *asked('a', 2, 'lit', 0), fall=('c',)), True)

    def test_below_a_house_that_woke(self):
        """The row has what letters it likes where nobody learned, but one and the same for all."""
        woken = (
            ('vote', 0, 'a', 1, 'hold'), ('sleep', 0, 'a'), ('count', 0, 'a', 0, 1, 1), ('learn', 1, 'a', ('a',), 1, 'hold'),
            ('begin', 1, 'a', 0, 'lit'), ('answer', 1, 4, 1),
        )
        self.assertTrue(is_book(TURNS))
        self.same(self.one(TURNS, run_of(*woken), True), ('turn', 'hold'))
        self.same(self.one(TURNS, run_of(*woken, *own('b', 0, 'turn', 1)), True), ('turn', 'hold'))
        late = run_of(*woken, *own('b', 0, 'hold', 1), *own('c', 1, 'hold', 2))
        self.one(TURNS, late, False)
        self.same(first_break(TURNS, late), ('learned', 7))
        other = woken + (('begin', 1, 'b', 1, 'lit'), ('answer', 1, 6, 0))
        self.one(TURNS, run_of(*other), False)
        self.same(first_break(TURNS, run_of(*other)), ('look', 7))

    def test_a_look_that_began_ahead_of_all(self):
        """Its house woke in a wrong state: the answer is that of no beginning, not even of the first one."""
        events = (
            ('vote', 0, 'a', 0, 'hold'), ('sleep', 0, 'a'), ('count', 0, 'a', 0, 0, 1), ('begin', 0, 'a', 0, 'lit'), ('learn', 1, 'a', ('a',), 0, 'hold'),
        )
        wrong = run_of(*events, ('answer', 1, 3, 1))
        self.one(TURNS, wrong, False)
        self.same(first_break(TURNS, wrong), ('look', 5))
        right = run_of(*events[:2], ('count', 0, 'a', 0, 0, 0), *events[3:], ('answer', 1, 3, 0))
        self.one(TURNS, right, True)

    def test_several_looks_at_once(self):
        """Looks that began together need not be answered behind the same beginning."""
        events = (('begin', 0, 'b', 1, 'lit'), ('begin', 0, 'c', 2, 'lit'), *own('a', 0, 'on'), ('answer', 1, 0, 0), *own('c', 0, 'on', 1), ('answer', 2, 1, 1))
        self.same(self.one(LAMPS, run_of(*events), True), ('on',))

    def test_what_is_one_and_what_is_not_stays(self):
        for book, run, age, rows in all_drawn():
            if rows:
                for more in (1, 2, 5):
                    self.same(run_is_one(book, run, age=age if book[4] else age + more), True)
                for k in range(0, len(run[2]), 4):
                    self.same(run_is_one(book, run[:2] + (run[2][:k],), age=age), True)
            else:
                index = first_break(book, run, age=age)[1]
                for k in range(len(run[2]) + 1):
                    self.same(run_is_one(book, run[:2] + (run[2][:k],), age=age), k <= index)

    def test_states_in_books_that_are_one(self):
        """Point 63, and (W): in all runs that were drawn of them."""
        random, many = Random(5), 0
        books = [book for book in drawn_books(120, seed=71) if book[3]] + SOUND * 8
        for book in books:
            if plainwhole.faults(book, 0, SPAN):
                self.assertNotIn(book, SOUND)
                continue
            run = drawn_run(random, book, 30 if book in SOUND else 12)
            row = run_row(book, run)
            self.assertIsNotNone(row, (book, run))
            for house in plain.houses_of(book[1]):
                looks = plainwhole.looks_of_house(book, house)
                state = plainruns.state(book, run[2], house) if house not in run[0] else None
                if plain.is_safe(book[1], house, run[0]) and looks and state is not None:
                    there = plain.made_of(book[0], 0, row[: plainruns.height(book, run[2], house)])
                    self.assertIsNone(plain.parting_row(book[0], state, there, looks))
                    many += state != 0
        self.assertGreater(many, 9)

    def test_ages(self):
        for call in (run_is_one, run_row, first_break, lambda *args, **named: lets_row(*args, ('on',), **named)):
            for age in [value for value in ODD if not plain.is_number(value)]:
                self.refused('age', call, LAMPS, ((), (0, 0, 0), ()), age=age)
            for age in (1, 2, 60):
                self.refused('age', call, BOOK, PLAIN, age=age)
            self.refused('run', call, BOOK, PLAIN[:2], age=1)
            self.refused('book', call, BOOK[:4], PLAIN[:2], age=1)
        with self.assertRaises(TypeError):
            run_is_one(BOOK, PLAIN, 0)
        self.same(run_is_one(run=LATE, book=BOOK), True)


class Rows(Case):
    def test_drawn(self):
        seen = set()
        for book, run, age, rows in all_drawn():
            many = plainruns.length(book, run)
            for more in (-1, 0, 1):
                if many + more >= 0:
                    for row in plain.rows_of(book[0], many + more)[::5]:
                        wanted = plainruns.row(book, run, row, age)
                        seen.add(self.judged(wanted, lambda *args: lets_row(*args, age=age), book, run, row))
        self.assertEqual(seen, {'let', 'short', 'learned', 'look'})

    def test_changes(self):
        for book, run, row in ((BOOK, LATE, ('on',)), (BOOK, PLAIN, ('off',)), (BOOK, SLEPT, ('on', 'off'))):
            for thing in ODD + list(changes_of(row)):
                self.judged(plainruns.row(book, run, thing, 0), lets_row, book, run, thing)

    def test_the_first_error(self):
        """One too short that has another letter, too; then learnings ahead of looks, each in order."""
        events = own('a', 0, 'on') + own('b', 1, 'on', 1) + asked('a', 4, 'lit', 1, 2) + asked('b', 6, 'lit', 0, 3) + asked('c', 8, 'lit', 0, 3)
        run = run_of(*events)
        lets_run(LAMPS, run)
        for row, wanted in (
            (['on', 'on'], ('shape', -1)), (('on', None), ('shape', -1)), (('off',), ('short', -1)), (('off', 'off'), ('learned', 1)),
            (('on', 'off'), ('learned', 3)), (('on', 'on'), ('look', 7)),
        ):
            self.same(plainruns.row(LAMPS, run, row, 0), wanted)
            self.judged(wanted, lets_row, LAMPS, run, row)
        self.judged([3], lambda *args: lets_row(*args, age=1), LAMPS, run, ('on', 'on'))

    def test_longer_rows(self):
        for more in ((), ('off',), ('off', 'on', 'on')):
            self.same(lets_row(BOOK, LATE, ('on',) + more), 1)
        self.same(lets_row(BOOK, ((), (0, 0, 0), VOTES), ('on', 'off')), 0)
        self.same(lets_row(BOOK, ((), (0, 0, 0), ()), ()), 0)

    def test_a_longer_row_is_not_looked_at_beyond(self):
        """Behind the greatest height that there was no beginning counts."""
        run = run_of(*own('a', 0, 'on'), *asked('b', 2, 'lit', 0))
        for row in (('on', 'off'), ('on', 'off', 'off')):
            self.wrong('look', 3, lets_row, LAMPS, run, row)
            self.same(lets_row(LAMPS, run, row, age=1), 1)
