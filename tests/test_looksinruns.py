"""Points 4, 9, 59, 60: the looks that a run answers, and where letters clash."""

from actasone.kinds import is_book
from actasone.looksinruns import clash_in, looks_in
from tests import plain, plainruns
from tests.cases import Case
from tests.drawnruns import BOOKS, drawn_runs
from tests.samples import BOOK, CALM, LAMP, LATE, LEASED, LIT, PLAIN, SLEPT, VOTES, set_in

# b fears c; a and c fear nobody. Each learns what it voted for itself.
TORN = (('a', (('a',),), ((),)), ('b', (('b',),), (('c',),)), ('c', (('c',),), ((),)))
OWN = tuple((house, LIT, (), 'any', ()) for house in ('a', 'b', 'c'))
BARE = (LAMP, TORN, (), OWN, (('a', 1),))


def own(house, letter, place=0, time=0):
    return (('vote', time, house, place, letter), ('learn', time + 1, house, (house,), place, letter))


class Looks(Case):
    def test_example(self):
        self.same(
            [looks_in(BOOK, PLAIN), looks_in(BOOK, LATE), looks_in(BOOK, LEASED), clash_in(BOOK, LATE)],
            [((5, 'b', 'lit', 0, 1, 1),), ((7, 'b', 'lit', 1, 1, 1),), ((5, 'a', 'lit', 0, 0, 0),), None],
        )

    def test_drawn(self):
        many = 0
        for book, run in drawn_runs(20):
            looks = looks_in(book, run)
            self.same(looks, plainruns.looks(book, run))
            many += len(looks)
            for index, house, look, number, least, most in looks:
                self.assertLessEqual(least, most)
                begun = run[2][index][2]
                self.assertEqual((run[2][begun][2], run[2][begun][4], run[2][index][3]), (house, look, number))
                for late in looks:
                    if run[2][late[0]][2] > index:
                        self.assertLessEqual(most, late[4])
        self.assertGreater(many, 60)

    def test_least_and_most(self):
        """Between begin and answer another house learns: its height counts for most, not for least."""
        events = (
            ('begin', 0, 'a', 0, 'lit'), *own('b', 'on', 0), ('answer', 1, 0, 0), ('begin', 1, 'a', 0, 'lit'), ('answer', 1, 4, 0),
        )
        self.same(looks_in(BARE, ((), (0, 0, 0), events)), ((3, 'a', 'lit', 0, 0, 1), (5, 'a', 'lit', 0, 1, 1)))

    def test_a_height_that_is_gone_counts(self):
        events = own('b', 'on') + (('sleep', 1, 'b'), ('begin', 1, 'a', 0, 'lit'), ('answer', 1, 3, 0))
        self.same(looks_in(BARE, ((), (0, 0, 0), events)), ((4, 'a', 'lit', 0, 1, 1),))

    def test_only_the_heights_of_safe_houses(self):
        """By the fall (c) only b is safe: a is not, as it does not fear c, and c lies."""
        self.assertEqual([plain.is_safe(TORN, house, ('c',)) for house in 'abc'], [False, True, False])
        events = own('a', 'on') + (('begin', 1, 'a', 0, 'lit'), ('begin', 1, 'b', 1, 'lit'), ('answer', 1, 2, 1), ('answer', 1, 3, 0))
        self.same(looks_in(BARE, ((), (0, 0, 0), events)), ((4, 'a', 'lit', 1, 1, 1), (5, 'b', 'lit', 0, 1, 1)))
        self.same(looks_in(BARE, (('c',), (0, 0, 0), events)), ((5, 'b', 'lit', 0, 0, 0),))
        self.same(looks_in(BARE, (('b',), (0, 0, 0), own('a', 'on') + (('begin', 1, 'a', 0, 'lit'), ('answer', 1, 2, 1)))), ())

    def test_by_the_index_of_the_answer(self):
        events = (('begin', 0, 'a', 0, 'lit'), ('begin', 0, 'b', 1, 'lit'), ('answer', 0, 1, 0), ('answer', 0, 0, 0), ('begin', 0, 'c', 2, 'lit'))
        self.same(looks_in(BARE, ((), (0, 0, 0), events)), ((2, 'b', 'lit', 0, 0, 0), (3, 'a', 'lit', 0, 0, 0)))

    def test_none(self):
        for run in (((), (0, 0, 0), ()), SLEPT, ((), (0, 0, 0), VOTES), (('a', 'b', 'c'), (0, 0, 0), ())):
            self.same(looks_in(BOOK, run), ())
        self.assertTrue(is_book(BARE))


class Clash(Case):
    def test_drawn(self):
        many = 0
        for book, run in drawn_runs(16):
            self.same(clash_in(book, run), plainruns.clash(book, run))
            many += clash_in(book, run) is not None
        self.assertGreater(many, 2)

    def clash(self, *events, fall=(), book=BARE):
        run = (fall, (0, 0, 0), events)
        self.same(clash_in(book, run), plainruns.clash(book, run))
        return clash_in(book, run)

    def test_two_houses(self):
        self.same(self.clash(*own('a', 'on'), *own('b', 'off', time=1)), (1, 3))
        self.same(self.clash(*own('a', 'on'), *own('b', 'on', time=1)), None)
        self.same(self.clash(*own('a', 'on'), *own('b', 'off', place=1, time=1)), None)

    def test_the_least_index_and_the_least_ahead_of_it(self):
        more = own('a', 'on') + own('b', 'on', time=1) + own('c', 'off', time=2)
        self.same(self.clash(*more), (1, 5))
        places = own('a', 'on', 1) + own('a', 'on', 0, 1) + own('b', 'off', 0, 2) + own('b', 'off', 1, 3)
        self.same(self.clash(*places), (3, 5))
        three = own('a', 'on') + own('b', 'off', time=1) + own('c', 'on', time=2)
        self.same(self.clash(*three), (1, 3))

    def test_only_safe_houses(self):
        events = own('a', 'on') + own('b', 'off', time=1)
        self.same(self.clash(*events, fall=('c',)), None)
        self.same(self.clash(*own('a', 'on'), *own('c', 'off', time=1)), (1, 3))
        torn = set_in(TORN, (0, 2), (('c',),))
        self.same(self.clash(*events, fall=('c',), book=set_in(BARE, (1,), torn)), (1, 3))

    def test_a_house_with_itself(self):
        """What it learned ahead of its sleep counts, too."""
        lone = BOOKS['lone']
        told = lambda letter: ('learn', 1, 'a', ('b',), 0, letter)
        events = (told('hold'), ('sleep', 1, 'a'), ('wake', 1, 'a'), told('turn'))
        run = (('b',), (0, 0), events)
        self.same([clash_in(lone, run), plainruns.clash(lone, run)], [(0, 3), (0, 3)])
        self.same(clash_in(lone, run[:2] + (events[:3] + (told('hold'),),)), None)

    def test_votes_alone_do_not_clash(self):
        self.same(self.clash(('vote', 0, 'a', 0, 'on'), ('vote', 0, 'b', 0, 'off')), None)
        self.same(clash_in(BOOK, ((), (0, 0, 0), ())), None)

    def test_wrong_runs(self):
        for call in (looks_in, clash_in):
            for run in (None, (), LATE[:2], ((), (0, 9, 0), ()), LATE[:2] + (LATE[2] + (None,),), LATE[:2] + (LATE[2][1:],), (('a',),) + LATE[1:]):
                self.refused('run', call, BOOK, run)
                self.refused('book', call, (LAMP, CALM), run)
            self.same(call(run=LATE, book=BOOK), call(BOOK, LATE))
