"""Point 92: live houses that refuse what breaks, and events led through."""

from random import Random

from actasone.errors import InvalidEvent
from actasone.guarded import Guarded
from actasone.live import LiveHouses
from actasone.oneness import run_is_one
from actasone.replaying import replayed
from actasone.through import lead_through
from tests import plainruns
from tests.cases import Case
from tests.drawnruns import BOOKS, drawn_event, drawn_runs, sleepless_runs
from tests.samples import BOOK, LATE, LEASED, MIXED, ODD, PLAIN, VOTES
from tests.test_live import CAST, FREE, all_told, begun, reason


def guarded(book, run, age=0):
    return Guarded(book, run[0], run[1], age=age)


def reason_of(live, event):
    """The reason of the live houses, and broken where there is none, but the run would not be as one."""
    word = reason(live, event)
    if word is not None or not isinstance(live, Guarded):
        return word
    fall, setting, events = live.run_now
    late = (fall, setting, events + (event,))
    return None if plainruns.rows_of_run(live.book_now, late, live.age_now) else 'broken'


class Guards(Case):
    def test_example(self):
        self.same(lead_through(Guarded(BOOK, (), (0, 0, 0)), PLAIN[2]), (None, None, None, None, None, 'broken'))

    def test_kind(self):
        self.assertTrue(issubclass(Guarded, LiveHouses))
        self.assertEqual(Guarded.__bases__, (LiveHouses,))
        self.same(Guarded.MOST, 40)

    def test_drawn(self):
        """Broken exactly where the run would not be as one; all that is not refused is as one."""
        seen = {}
        for runs, ages in ((drawn_runs(14), (0,)), (sleepless_runs(5), (0, 1, 2))):
            for book, run in runs:
                for age in ages:
                    if run_is_one(book, run, age=age):
                        live = guarded(book, run, age)
                        self.same(live.do_all(*run[2]), len(run[2]))
                        self.same(live.is_one(), True)
                        continue
                    live = guarded(book, run, age)
                    free = begun(book, run, age)
                    for event in run[2]:
                        free.go(event)
                        if not free.is_one():
                            self.broken(live, event)
                            break
                        self.same([live.barred(event), live.go(event)], [None, True])
                    seen[event[0]] = seen.get(event[0], 0) + 1
        self.assertGreater(min(seen['learn'], seen['answer']), 4, seen)

    def broken(self, live, event):
        """Refused by all that lets events happen, and all stays."""
        fields = {'event': event, 'reason': 'broken'}
        before = all_told(live)
        self.same(live.barred(event), 'broken')
        for call in (live.go, live.tried, live.do_all, getattr(live, event[0])):
            args = event[1:] if call == getattr(live, event[0]) else (event,)
            self.raised(InvalidEvent, fields, call, *args)
            self.same(all_told(live), before)
        self.raised(InvalidEvent, fields, live.do_all, event, keep=True)
        self.same(all_told(live), before)
        self.same(lead_through(live, (event, None)), ('broken', 'shape'))
        self.same(all_told(live), before)
        self.assertTrue(live == replayed(live.log()))

    def test_all_reasons(self):
        """Behind drawn events, as many as are let: by turns with undo."""
        random, seen = Random(180), {}
        for name in ('lamp', 'torn', 'torn', 'lone', 'alone'):
            book = BOOKS[name]
            live = Guarded(book, (), (0,) * len(book[1]))
            time = 0
            for step in range(240):
                time += random.random() < 0.1
                event = drawn_event(random, book, live.run_now[2], time - random.choice((0, 0, 0, 1)))
                if event[0] == 'vote':
                    # Unlike letters by different houses, so that what they learn can break.
                    event = event[:4] + (book[0][0]['abc'.index(event[2]) // 2],)
                if event[0] == 'learn':
                    voted = dict(live.votes(event[3][0]))
                    event = event[:5] + (voted.get(event[4], event[5]),)
                wanted = reason_of(live, event)
                self.same(live.barred(event), wanted)
                seen[wanted] = seen.get(wanted, 0) + 1
                if wanted is None:
                    self.same(live.go(event), True)
                else:
                    self.raised(InvalidEvent, {'event': event, 'reason': wanted}, live.go, event)
                if step % 20 == 19:
                    live.undo()
        self.assertGreater(seen.get('broken', 0), 3)

    def test_after_all_other_reasons(self):
        live = guarded(BOOK, PLAIN)
        live.do_all(*PLAIN[2][:5])
        for event, word in ((PLAIN[2][5], 'broken'), (('answer', 0, 3, 0), 'time'), (('answer', 1, 3, 1), 'answer'), (('answer', 1, 3, True), 'shape')):
            self.same(live.barred(event), word)
        # What was refused did not happen: the same look can be answered when it is right.
        self.same(live.do_all(*[('vote', 1, 'c', 0, 'on'), ('learn', 2, 'b', ('a', 'b'), 0, 'on'), ('answer', 2, 3, 1)]), 3)
        full = guarded(BOOK, PLAIN)
        full.do_all(*CAST)
        for event, word in ((None, 'shape'), (('wake', 0, 'a'), 'full'), (('vote', 0, 'd', 0, 'on'), 'shape')):
            self.same(full.barred(event), word)
        self.same(full.tried(), ((0, 0, 0), (0, 0, 0), True))

    def test_full_ahead_of_broken(self):
        live = guarded(BOOK, PLAIN)
        live.do_all(*PLAIN[2][:5], *[('vote', 1, 'c', place, 'off') for place in range(3, 38)])
        self.same([len(live), live.barred(PLAIN[2][5])], [40, 'full'])
        live.undo()
        self.same(live.barred(PLAIN[2][5]), 'broken')

    def test_ages(self):
        for age, word in ((0, 'broken'), (1, None)):
            live = guarded(FREE, PLAIN, age)
            self.same(lead_through(live, PLAIN[2])[-1], word)
            self.same([len(live), live.is_one(), live.age_now], [6 if word is None else 5, True, age])

    def test_states_that_stay_wrong(self):
        """A house woke in a state that it cannot know: its first wrong answer is refused, or what shows it."""
        live = Guarded(MIXED, (), (0, 0, 0))
        live.do_all(('sleep', 0, 'a'), ('count', 0, 'a', 0, 0, 1), *[('vote', 0, house, place, 'hold') for place in (0, 1) for house in 'ab'])
        live.do_all(('learn', 1, 'a', ('a', 'b'), 0, 'hold'), ('learn', 1, 'a', ('a', 'b'), 1, 'hold'), ('promise', 1, 'c', 0), ('says', 1, 'c', 0, 0))
        self.same(live['a'], (True, 2, 1))
        self.same([live.begin(2, 'a', 0, 'lit'), live.told(2, 10, 'b', 2)], [True, True])
        self.same([live.barred(('answer', 2, 10, 1)), live.barred(('answer', 2, 10, 0))], ['broken', 'answer'])

    def test_equal(self):
        """To live houses of either class with an equal log."""
        for run in (LATE, LEASED):
            one, two = guarded(BOOK, run), begun(BOOK, run)
            for event in run[2]:
                one.go(event)
                self.assertFalse(one == two)
                two.go(event)
                self.assertTrue(one == two and two == one)
                self.same(all_told(one), all_told(two))
            self.assertTrue(replayed(one.log()) == one)
        self.same(type(replayed(one.log())) is LiveHouses, True)


class Through(Case):
    def test_drawn(self):
        random = Random(181)
        for kind in (LiveHouses, Guarded):
            for name in ('lamp', 'fearing', 'alone'):
                book = BOOKS[name]
                live, other = (kind(book, (), (0,) * len(book[1])) for _ in range(2))
                events = [drawn_event(random, book, VOTES, 0) for _ in range(40)] + [None, 1, [], True, ()]
                random.shuffle(events)
                wanted = []
                for event in events:
                    word = reason_of(other, event)
                    wanted.append(word)
                    self.same(other.barred(event), word)
                    if word is None:
                        other.go(event)
                self.same(lead_through(live, tuple(events)), tuple(wanted))
                self.assertTrue(live == other)
                self.same(all_told(live), all_told(other))
                self.same(live.tally(), (len(events),) * 2)

    def test_nothing(self):
        live = begun(BOOK, PLAIN)
        self.same([lead_through(live, ()), live.tally(), len(live)], [(), (0, 0), 0])
        self.same(lead_through(events=(VOTES[0], VOTES[0]), live=live), (None, 'vote'))
        self.same([live.tally(), live.run_now[2]], [(2, 2), VOTES[:1]])

    def test_forty_and_one_more(self):
        live = begun(BOOK, PLAIN)
        self.same(lead_through(live, CAST + (('wake', 0, 'a'), None)), (None,) * 40 + ('full', 'shape'))

    def test_refused(self):
        live = begun(BOOK, PLAIN)
        for value in ODD + [BOOK, live.log(), [live], LiveHouses]:
            self.refused('live', lead_through, value, PLAIN[2])
            self.refused('live', lead_through, value, None)
        for value in [value for value in ODD if type(value) is not tuple] + [list(VOTES), live]:
            self.refused('events', lead_through, live, value)
            self.refused('events', lead_through, events=value, live=live)
        self.same([len(live), live.tally()], [0, (0, 0)])
