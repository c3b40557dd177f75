"""Points 8, 57, 58: what a run has made of the houses."""

from actasone.inruns import greatest_in, height_in, learned_in, state_in, votes_in
from actasone.runchecker import lets_run
from tests import plain, plainruns
from tests.cases import Case
from tests.drawnruns import drawn_runs
from tests.samples import BOOK, CALM, LAMP, LATE, LEASED, PAST, PLAIN, SLEPT, VOTES

COUNTED = (PAST, CALM, (), (('a', ('new',), (), 'any', ()),), (('a', 1), ('a', 2)))
CAST = tuple(('vote', 0, house, place, 'yes') for house in ('a', 'b') for place in range(7))


def learn(place, time=1):
    return ('learn', time, 'a', ('a', 'b'), place, 'yes')


class Inside(Case):
    def told(self, *events, book=COUNTED, house='a'):
        run = ((), (0, 0, 0), events)
        lets_run(book, run)
        return [height_in(book, run, house), state_in(book, run, house), greatest_in(book, run, house)]

    def test_example(self):
        self.same(
            [votes_in(BOOK, PLAIN, 'b'), learned_in(BOOK, PLAIN, 'a'), height_in(BOOK, PLAIN, 'a'), state_in(BOOK, PLAIN, 'a'),
             height_in(BOOK, PLAIN, 'b')],
            [((0, 'on'),), ((0, 'on'),), 1, 1, 0],
        )
        self.same([learned_in(BOOK, SLEPT, 'a'), height_in(BOOK, SLEPT, 'a'), greatest_in(BOOK, SLEPT, 'a')], [(), None, 1])

    def test_drawn(self):
        seen = set()
        for book, run in drawn_runs(12):
            fall, _, events = run
            for house in plain.houses_of(book[1]):
                if house in fall:
                    wanted = [(), (), None, 0, None]
                else:
                    wanted = [
                        tuple(sorted(plainruns.votes(events, house).items())), tuple(sorted(plainruns.learned(events, house).items())),
                        plainruns.height(book, events, house), plainruns.greatest(book, events, house), plainruns.state(book, events, house),
                    ]
                    seen.add((plainruns.is_asleep(events, house), wanted[2], wanted[4] not in (None, 0)))
                self.same([call(book, run, house) for call in (votes_in, learned_in, height_in, greatest_in, state_in)], wanted)
        self.assertGreaterEqual(seen, {(True, None, False), (False, None, False), (False, 0, False), (False, 2, True), (False, 4, True)})

    def test_beginnings(self):
        for book, run in drawn_runs(2):
            for k in range(len(run[2]) + 1):
                late = run[:2] + (run[2][:k],)
                for house in plain.houses_of(book[1]):
                    if house not in run[0]:
                        self.same(height_in(book, late, house), plainruns.height(book, run[2][:k], house))
                        self.same(greatest_in(book, late, house), plainruns.greatest(book, run[2][:k], house))

    def test_at_first(self):
        for house in ('a', 'b', 'c'):
            self.same([votes_in(BOOK, LEASED, house), learned_in(BOOK, LEASED, house)], [(), ()])
            self.same([height_in(BOOK, LEASED, house), state_in(BOOK, LEASED, house), greatest_in(BOOK, LEASED, house)], [0, 0, 0])

    def test_heights_without_a_gap(self):
        self.same(self.told(*CAST), [0, 0, 0])
        self.same(self.told(*CAST, learn(1), learn(2)), [0, 0, 0])
        self.same(self.told(*CAST, learn(1), learn(2), learn(0)), [3, 3, 3])
        self.same(self.told(*CAST, learn(0), learn(2)), [1, 1, 1])
        self.same(self.told(*CAST, learn(0), house='b'), [0, 0, 0])

    def test_asleep(self):
        self.same(self.told(*CAST, learn(0), learn(1), ('sleep', 2, 'a')), [None, None, 2])
        run = ((), (0, 0, 0), CAST + (learn(0), ('sleep', 2, 'a')))
        self.same([learned_in(COUNTED, run, 'a'), len(votes_in(COUNTED, run, 'a'))], [(), 7])

    def test_from_place_0_on(self):
        woken = CAST + (learn(0), learn(1), ('sleep', 2, 'a'), ('wake', 2, 'a'))
        self.same(self.told(*woken), [0, 0, 2])
        self.same(self.told(*woken, learn(1, 3)), [0, 0, 2])
        self.same(self.told(*woken, learn(1, 3), learn(0, 3)), [2, 3, 2])
        self.same(self.told(*woken, learn(1, 3), learn(0, 3), learn(2, 3)), [3, 3, 3])

    def test_from_a_place_on(self):
        """By the rule 1 two places from 4 on, in state 0, which yes makes 1 and then 3."""
        woken = CAST + (learn(0), ('sleep', 2, 'a'), ('count', 2, 'a', 1, 4, 0))
        self.same(self.told(*woken), [None, None, 1])
        self.same(self.told(*woken, learn(4, 2)), [None, None, 1])
        self.same(self.told(*woken, learn(4, 2), learn(6, 2)), [None, None, 1])
        self.same(self.told(*woken, learn(0, 2), learn(1, 2), learn(2, 2), learn(3, 2)), [None, None, 1])
        self.same(self.told(*woken, learn(5, 2), learn(4, 2)), [6, 3, 6])
        self.same(self.told(*woken, learn(5, 2), learn(4, 2), learn(6, 2)), [7, 3, 7])
        self.same(self.told(*woken, learn(6, 2), learn(5, 2), learn(4, 2)), [7, 3, 7])
        self.same(self.told(*woken, learn(5, 2), learn(4, 2), ('sleep', 3, 'a'), ('wake', 3, 'a')), [0, 0, 6])
        again = woken + (learn(5, 2), learn(4, 2), ('sleep', 3, 'a'), ('count', 3, 'a', 0, 1, 2))
        self.same(self.told(*again), [None, None, 6])
        self.same(self.told(*again, learn(1, 3)), [2, 1, 6])

    def test_the_state_in_which_it_woke(self):
        votes = tuple(('vote', 0, house, 0, 'off') for house in ('a', 'b'))
        for state in (0, 1):
            events = votes + (('sleep', 1, 'a'), ('count', 1, 'a', 0, 0, state), ('learn', 1, 'a', ('a', 'b'), 0, 'off'))
            self.same(self.told(*events, book=(LAMP, CALM, (), (), (('a', 1),))), [1, 0, 1])
        for state, late in ((0, 1), (1, 3), (2, 1), (3, 3)):
            self.same(self.told(*CAST, ('sleep', 1, 'a'), ('count', 1, 'a', 0, 0, state), learn(0)), [1, late, 1])

    def test_who_lies(self):
        run = (('b',), (0, 0, 0), (('vote', 0, 'a', 0, 'on'), ('learn', 1, 'a', ('a', 'b'), 0, 'on')))
        for call, wanted in ((votes_in, ()), (learned_in, ()), (height_in, None), (state_in, None), (greatest_in, 0)):
            self.same(call(BOOK, run, 'b'), wanted)
        self.same([height_in(BOOK, run, 'a'), state_in(BOOK, run, 'a')], [1, 1])
        self.same([height_in(BOOK, (('a', 'b', 'c'), (0, 0, 0), ()), house) for house in 'abc'], [None] * 3)

    def test_votes_ascend_by_places(self):
        run = ((), (0, 0, 0), (('vote', 0, 'a', 10, 'on'), ('vote', 0, 'a', 2, 'off'), ('sleep', 0, 'a'), ('vote', 1, 'a', 0, 'on'), ('vote', 1, 'b', 1, 'on')))
        self.same(votes_in(BOOK, run, 'a'), ((0, 'on'), (2, 'off'), (10, 'on')))
        run = ((), (0, 0, 0), tuple(('vote', 0, house, place, 'on') for house in 'ab' for place in (10, 2)) + tuple(
            ('learn', 1, 'c', ('a', 'b'), place, 'on') for place in (10, 2)
        ))
        self.same(learned_in(BOOK, run, 'c'), ((2, 'on'), (10, 'on')))

    def test_wrong_runs(self):
        """The run is refused by its own name, whatever is wrong with it."""
        for call in (votes_in, learned_in, height_in, greatest_in, state_in):
            for run in (
                None, (), list(LATE), LATE[:2], (('d',),) + LATE[1:], ((), (0, 9, 0), ()), ((), (0, 0, True), ()), LATE[:2] + (list(LATE[2]),),
                LATE[:2] + (LATE[2] + (None,),), LATE[:2] + (LATE[2][1:],), LATE[:2] + (LATE[2] + LATE[2][-1:],), (('a',),) + LATE[1:],
                LATE[:2] + (LATE[2] + (('sleep', 0, 'a'),),), LATE[:2] + (VOTES[:1] + VOTES[2:],),
            ):
                self.refused('run', call, BOOK, run, 'a')
                self.refused('run', call, BOOK, run, 'd')
                self.refused('book', call, None, run, 'd')
            for house in ('d', 'A', '', None, 0, True, ('a',), ['a'], 'any'):
                self.refused('house', call, BOOK, LATE, house)
            self.same(call(house='a', run=LATE, book=BOOK), call(BOOK, LATE, 'a'))
