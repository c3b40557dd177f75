"""Points 8, 55, 56: which runs a book lets, and for which reason it does not."""

from collections import Counter
from random import Random

from actasone.runchecker import lets_run
from tests import plainruns
from tests.cases import Case
from tests.drawnruns import BOOKS, drawn_run, drawn_runs
from tests.samples import BOOK, CALM, LAMP, LATE, LEASED, LIT, ODD, PLAIN, SLEPT, VOTES, changes_of

LIED = (LAMP, CALM, (), (('a', LIT, ('a', 'b'), 'any', ()), ('b', LIT, (), 20, (('a', 4), ('c', 6))), ('a', LIT, (), 9, ())), (('a', 2), ('a', 1)))


class Runs(Case):
    """Each test tells the events of runs of a book, with nobody who lies and all clocks at nought."""

    book, fall, setting = BOOK, (), (0, 0, 0)

    def lets(self, *events):
        run = (self.fall, self.setting, events)
        self.same(plainruns.lets_run(self.book, run), [len(events)])
        self.same(lets_run(self.book, run), len(events))

    def bars(self, word, *events):
        """The last one of the events is refused so."""
        run = (self.fall, self.setting, events)
        self.same(plainruns.lets_run(self.book, run), (word, len(events) - 1))
        self.wrong(word, len(events) - 1, lets_run, self.book, run)
        self.wrong(word, len(events) - 1, lets_run, self.book, run[:2] + (events + (None, ('sleep', -99, 'zz')),))
        self.lets(*events[:-1])


class Whole(Runs):
    def test_example(self):
        self.same([lets_run(BOOK, PLAIN), lets_run(BOOK, LATE), lets_run(BOOK, LEASED), lets_run(BOOK, SLEPT)], [6, 8, 6, 5])
        self.wrong('vote', 6, lets_run, BOOK, ((), (0, 0, 0), LEASED[2] + (('vote', 11, 'b', 0, 'on'),)))

    def test_no_events(self):
        self.lets()
        self.same(lets_run(BOOK, (('a', 'b', 'c'), (0, 0, 0), ())), 0)

    def test_shape(self):
        for thing in ODD + [
            PLAIN[:2], PLAIN + ((),), list(PLAIN), PLAIN[:2] + (list(PLAIN[2]),), PLAIN[:2] + (None,), PLAIN[:2] + ('events',),
            (None, None, None), (None, None, []), ((), (0, 0, 0), 3),
        ]:
            self.wrong('shape', -1, lets_run, BOOK, thing)

    def test_fall(self):
        for fall in (None, ['a'], ('d',), ('b', 'a'), ('a', 'a'), 'a', ('A',), (['a'],), (('a',),), True, (None,), 0):
            self.wrong('fall', -1, lets_run, BOOK, (fall,) + PLAIN[1:])
            self.wrong('fall', -1, lets_run, BOOK, (fall, None, (None,)))

    def test_setting(self):
        for setting in (
            None, (0, 0), (0, 0, 0, 0), [0, 0, 0], (0, 0, True), (0, 0, False), (0, 0, '0'), (0, 0, None), (0, 3, 0), (0, 2, -1), (0, 0, (0,)),
            (2, 0, -1), (0, 0, [0]), (), 'abc', 0,
        ):
            self.wrong('setting', -1, lets_run, BOOK, ((), setting, PLAIN[2]))
            self.wrong('setting', -1, lets_run, BOOK, (('a',), setting, (None,)))
        for setting in ((0, 2, 0), (0, 2, 1), (-5, -3, -4), (2, 0, 0)):
            self.same(lets_run(BOOK, ((), setting, PLAIN[2])), 6)

    def test_form(self):
        for event in (
            None, (), [], 'vote', ('vote', 0, 'a', 0), ['vote', 0, 'a', 0, 'on'], ('vote', 0, 'a', 0, 'dim'), ('vote', 0, 'a', True, 'on'), ('wait', 0, 'a'),
            ('vote', False, 'a', 0, 'on'), ('vote', 0, 'd', 0, 'on'), ('told', 0, 0, 'a', 0), ('answer', 0, 0, 0), ('begin', 0, 'a', 1, 'lit'),
            ('learn', 0, 'a', ('a',), 0, 'on'), ('count', 0, 'b', 0, 0, 0), ('promise', 0, 'a', 0), ('says', 0, 'b', 0, 0), ('sleep', 0, 'a', 0),
        ):
            self.bars('form', event)
            self.bars('form', ('sleep', 0, 'a'), event)
            self.bars('form', ('sleep', 5, 'b'), event)

    def test_time(self):
        for event in (
            ('vote', 4, 'a', 0, 'on'), ('learn', 4, 'a', ('a', 'b'), 0, 'on'), ('sleep', 4, 'b'), ('wake', 4, 'b'), ('count', 4, 'a', 0, 0, 0),
            ('begin', 4, 'b', 1, 'lit'), ('promise', 4, 'b', 2), ('says', 4, 'b', 2, 9), ('told', 4, 0, 'a', 9), ('answer', 4, 0, 9),
        ):
            self.bars('time', ('begin', 5, 'b', 1, 'lit'), event)
        self.lets(('sleep', -5, 'a'), ('sleep', -5, 'b'), ('sleep', -4, 'c'))
        self.bars('time', ('sleep', -4, 'a'), ('sleep', -5, 'b'))
        self.bars('time', ('sleep', 0, 'a'), ('sleep', 9, 'b'), ('sleep', 8, 'c'))

    def test_what_lies(self):
        self.fall = ('b',)
        for event in (
            ('vote', 5, 'b', 0, 'on'), ('learn', 5, 'b', ('a', 'b'), 0, 'on'), ('sleep', 5, 'b'), ('wake', 5, 'b'), ('begin', 5, 'b', 1, 'lit'),
            ('promise', 5, 'b', 2),
        ):
            self.bars('house', event)
        self.lets(('says', 5, 'b', 2, 77))
        self.fall = ('a',)
        self.bars('house', ('count', 5, 'a', 0, 0, 0))
        self.bars('house', ('begin', 5, 'a', 0, 'lit'))

    def test_what_sleeps(self):
        for event in (('learn', 5, 'b', ('b', 'c'), 0, 'on'), ('sleep', 5, 'b'), ('begin', 5, 'b', 1, 'lit')):
            self.bars('house', ('sleep', 5, 'b'), event)
            self.bars('house', ('sleep', 5, 'b'), ('wake', 5, 'b'), ('sleep', 5, 'b'), event)
        self.lets(('sleep', 5, 'b'), ('vote', 5, 'b', 0, 'on'), ('promise', 5, 'b', 2), ('says', 5, 'b', 2, 1))
        self.lets(('sleep', 5, 'c'), ('begin', 5, 'b', 1, 'lit'), ('told', 5, 1, 'c', 0))

    def test_what_does_not_sleep(self):
        for event in (('wake', 5, 'a'), ('count', 5, 'a', 0, 0, 0)):
            self.bars('house', event)
            self.bars('house', ('sleep', 5, 'b'), event)
            for woken in (('wake', 5, 'a'), ('count', 5, 'a', 0, 7, 1)):
                self.bars('house', ('sleep', 5, 'a'), woken, event)
                self.lets(('sleep', 5, 'a'), woken, ('sleep', 5, 'a'), event)

    def test_two_at_once(self):
        """The first one in the order of the list is told, and of two events the first one."""
        self.fall = ('b',)
        self.bars('form', ('sleep', 9, 'a'), ('vote', 5, 'b', -1, 'on'))
        self.bars('time', ('sleep', 9, 'a'), ('vote', 5, 'b', 0, 'on'))
        self.bars('time', ('sleep', 9, 'a'), ('learn', 5, 'a', ('a', 'b'), 0, 'on'))
        self.bars('house', ('sleep', 9, 'a'), ('learn', 9, 'a', ('a', 'c'), 0, 'on'))
        self.fall = ()
        self.bars('house', ('promise', 1, 'b', 2), ('sleep', 1, 'b'), ('learn', 1, 'b', ('a', 'b'), 0, 'on'))
        self.bars('learn', ('learn', 1, 'b', ('a', 'b'), 0, 'on'))
        self.wrong('learn', 0, lets_run, BOOK, ((), (0, 0, 0), (('learn', 1, 'b', ('a', 'b'), 0, 'on'), None)))
        self.wrong('fall', -1, lets_run, BOOK, (('d',), (0, 0), (None,)))
        self.wrong('shape', -1, lets_run, BOOK, (('d',), (0, 0), [None]))
        self.refused('book', lets_run, None, (('d',), (0, 0), [None]))


class Votes(Runs):
    def test_once_at_a_place(self):
        self.bars('vote', ('vote', 0, 'a', 3, 'on'), ('vote', 1, 'a', 3, 'off'))
        self.bars('vote', ('vote', 0, 'a', 3, 'on'), ('vote', 0, 'a', 3, 'on'))
        self.bars('vote', ('vote', 0, 'a', 3, 'on'), ('sleep', 0, 'a'), ('wake', 0, 'a'), ('vote', 1, 'a', 3, 'off'))
        self.lets(('vote', 0, 'a', 3, 'on'), ('vote', 0, 'a', 2, 'off'), ('vote', 0, 'b', 3, 'off'), ('vote', 0, 'a', 11, 'off'))

    def test_as_long_as_its_clock_reads_less(self):
        for setting in ((0, 0, 0), (0, 2, 1), (0, -1, 1)):
            self.setting = setting
            # The until of b is 12, and its clock reads the true time less its shift.
            over = 12 + setting[1]
            self.bars('vote', ('promise', 0, 'b', 2), ('vote', over - 1, 'b', 0, 'on'))
            self.lets(('promise', 0, 'b', 2), ('vote', over, 'b', 0, 'on'))
            self.lets(('promise', 0, 'b', 2), ('vote', over - 1, 'c', 0, 'on'))
            self.lets(('vote', over - 1, 'b', 0, 'on'), ('promise', over - 1, 'b', 2))

    def test_two_promises(self):
        self.bars('vote', ('promise', 0, 'b', 2), ('promise', 0, 'b', 3), ('vote', 11, 'b', 0, 'on'))
        self.bars('vote', ('promise', 0, 'b', 3), ('promise', 0, 'b', 2), ('vote', 11, 'b', 0, 'on'))
        self.lets(('promise', 0, 'b', 3), ('vote', 11, 'b', 0, 'on'), ('promise', 11, 'b', 2))
        self.lets(('promise', 0, 'b', 3), ('promise', 0, 'b', 2), ('vote', 12, 'b', 0, 'on'))

    def test_promises_are_kept_asleep(self):
        self.bars('vote', ('promise', 0, 'b', 2), ('sleep', 0, 'b'), ('vote', 11, 'b', 0, 'on'))
        self.bars('vote', ('promise', 0, 'b', 2), ('sleep', 0, 'b'), ('wake', 1, 'b'), ('vote', 11, 'b', 0, 'on'))
        self.bars('vote', ('sleep', 0, 'b'), ('promise', 0, 'b', 2), ('vote', 11, 'b', 0, 'on'))

    def test_other_gaps_do_not_matter(self):
        self.book = LIED
        self.setting = (100, -100, 0)
        self.bars('vote', ('promise', 0, 'a', 1), ('vote', 103, 'a', 0, 'on'))
        self.lets(('promise', 0, 'a', 1), ('vote', 104, 'a', 0, 'on'))
        self.lets(('promise', 99, 'a', 1), ('vote', 99, 'b', 0, 'on'))


class Learnings(Runs):
    def test_all_houses_of_the_lot_voted_so_at_a_lesser_time(self):
        learn = ('learn', 1, 'c', ('a', 'b'), 0, 'on')
        self.lets(('vote', 0, 'a', 0, 'on'), ('vote', 0, 'b', 0, 'on'), learn)
        self.bars('learn', ('vote', 0, 'a', 0, 'on'), learn)
        self.bars('learn', ('vote', 0, 'a', 0, 'on'), ('vote', 0, 'b', 0, 'off'), learn)
        self.bars('learn', ('vote', 0, 'a', 0, 'on'), ('vote', 0, 'b', 1, 'on'), learn)
        self.bars('learn', ('vote', 0, 'a', 0, 'on'), ('vote', 1, 'b', 0, 'on'), learn)
        self.bars('learn', ('vote', 1, 'a', 0, 'on'), ('vote', 1, 'b', 0, 'on'), learn)
        self.bars('learn', ('vote', 0, 'a', 0, 'on'), ('vote', 0, 'c', 0, 'on'), learn)

    def test_its_own_vote_too(self):
        self.bars('learn', ('vote', 0, 'a', 0, 'on'), ('learn', 1, 'b', ('a', 'b'), 0, 'on'))
        self.bars('learn', ('vote', 0, 'a', 0, 'on'), ('vote', 1, 'b', 0, 'on'), ('learn', 1, 'b', ('a', 'b'), 0, 'on'))

    def test_who_lies_can_have_told_anything(self):
        self.fall = ('b',)
        self.lets(('vote', 0, 'a', 0, 'on'), ('learn', 1, 'c', ('a', 'b'), 0, 'on'))
        self.bars('learn', ('vote', 0, 'a', 0, 'on'), ('learn', 1, 'c', ('a', 'b'), 0, 'off'))
        self.bars('learn', ('learn', 1, 'c', ('a', 'b'), 0, 'off'))
        self.fall = ('a', 'b')
        self.lets(('learn', 0, 'c', ('a', 'b'), 0, 'off'), ('learn', 0, 'c', ('a', 'b'), 7, 'on'))

    def test_once_since_it_woke(self):
        self.bars('learn', *VOTES, ('learn', 2, 'a', ('a', 'b'), 0, 'on'))
        self.bars('learn', *VOTES, ('vote', 1, 'c', 0, 'on'), ('learn', 2, 'a', ('a', 'c'), 0, 'on'))
        self.lets(*VOTES, ('sleep', 2, 'a'), ('wake', 2, 'a'), ('learn', 2, 'a', ('a', 'b'), 0, 'on'))
        self.bars('learn', *VOTES, ('sleep', 2, 'a'), ('wake', 2, 'a'), ('learn', 2, 'a', ('a', 'b'), 0, 'on'), ('learn', 2, 'a', ('a', 'b'), 0, 'on'))
        self.lets(*VOTES, ('sleep', 2, 'a'), ('count', 2, 'a', 0, 3, 0), ('learn', 2, 'a', ('a', 'b'), 0, 'on'))
        self.lets(*VOTES, ('learn', 1, 'c', ('a', 'b'), 0, 'on'))

    def test_in_any_order(self):
        votes = tuple(('vote', 0, house, place, 'on') for house in ('a', 'b') for place in (0, 1, 2))
        self.lets(*votes, *(('learn', 1, 'c', ('a', 'b'), place, 'on') for place in (2, 0, 1)))

    def test_another_lot(self):
        self.bars('learn', *VOTES[:2], ('learn', 1, 'a', ('a', 'c'), 0, 'on'))
        self.bars('form', *VOTES[:2], ('learn', 1, 'a', ('a',), 0, 'on'))


class Told(Runs):
    begin = ('begin', 1, 'a', 0, 'lit')

    def test_one_more_than_the_greatest_place(self):
        votes = (('vote', 0, 'b', 4, 'on'), ('vote', 0, 'b', 1, 'on'))
        self.lets(self.begin, ('told', 1, 0, 'b', 0))
        self.bars('told', self.begin, ('told', 1, 0, 'b', 1))
        self.lets(*votes, self.begin, ('told', 1, 2, 'b', 5))
        for number in (0, 2, 4, 6):
            self.bars('told', *votes, self.begin, ('told', 1, 2, 'b', number))
        self.lets(self.begin, ('vote', 1, 'b', 0, 'off'), ('told', 1, 0, 'b', 1))
        self.lets(self.begin, ('sleep', 1, 'b'), ('told', 1, 0, 'b', 0))

    def test_who_lies_tells_any_number(self):
        self.fall = ('b',)
        for number in (0, 1, 99):
            self.lets(self.begin, ('told', 1, 0, 'b', number))
        self.bars('told', self.begin, ('told', 1, 0, 'a', 1))

    def test_a_teller_of_the_lot_and_once(self):
        self.bars('told', self.begin, ('told', 1, 0, 'c', 0))
        self.bars('told', self.begin, ('told', 1, 0, 'b', 0), ('told', 1, 0, 'b', 0))
        self.bars('told', self.begin, ('told', 1, 0, 'b', 0), ('vote', 1, 'b', 0, 'on'), ('told', 1, 0, 'b', 1))
        self.lets(self.begin, ('told', 1, 0, 'b', 0), ('told', 1, 0, 'a', 0))
        self.lets(self.begin, self.begin, ('told', 1, 0, 'b', 0), ('told', 1, 1, 'b', 0))
        self.fall = ('b',)
        self.bars('told', self.begin, ('told', 1, 0, 'b', 0), ('told', 1, 0, 'b', 7))
        self.fall = ('c',)
        self.bars('told', self.begin, ('told', 1, 0, 'c', 0))

    def test_an_answered_look(self):
        told = (self.begin, ('told', 1, 0, 'a', 0), ('told', 1, 0, 'b', 0), ('answer', 1, 0, 0))
        self.bars('told', *told, ('told', 1, 0, 'b', 0))
        self.bars('answer', *told, ('answer', 1, 0, 0))
        self.lets(*told, self.begin, ('told', 1, 4, 'b', 0))

    def test_its_house_has_slept(self):
        for more in ((), (('wake', 1, 'a'),), (('count', 1, 'a', 0, 0, 1),)):
            self.bars('told', self.begin, ('sleep', 1, 'a'), *more, ('told', 1, 0, 'b', 0))
            self.bars('answer', self.begin, ('told', 1, 0, 'a', 0), ('told', 1, 0, 'b', 0), ('sleep', 1, 'a'), *more, ('answer', 1, 0, 0))
        self.lets(('sleep', 1, 'a'), ('wake', 1, 'a'), self.begin, ('told', 1, 2, 'b', 0))
        self.lets(self.begin, ('sleep', 1, 'c'), ('told', 1, 0, 'b', 0))


class Promises(Runs):
    def test_once(self):
        self.bars('promise', ('promise', 0, 'b', 2), ('promise', 0, 'b', 2))
        self.bars('promise', ('promise', 0, 'b', 2), ('sleep', 0, 'b'), ('wake', 0, 'b'), ('promise', 99, 'b', 2))
        self.lets(('promise', 0, 'b', 2), ('promise', 0, 'b', 3), ('promise', 0, 'c', 2))

    def test_says(self):
        self.bars('says', ('says', 0, 'b', 2, 0))
        self.bars('says', ('promise', 0, 'b', 3), ('says', 0, 'b', 2, 0))
        self.bars('says', ('promise', 0, 'c', 2), ('says', 0, 'b', 2, 0))
        self.bars('says', ('promise', 0, 'b', 2), ('says', 0, 'b', 2, 1))
        self.lets(('promise', 0, 'b', 2), ('says', 0, 'b', 2, 0), ('says', 0, 'b', 2, 0))
        self.lets(('vote', 0, 'b', 2, 'on'), ('promise', 0, 'b', 2), ('says', 0, 'b', 2, 3), ('vote', 12, 'b', 5, 'on'), ('says', 12, 'b', 2, 6))
        self.bars('says', ('vote', 0, 'b', 2, 'on'), ('promise', 0, 'b', 2), ('vote', 12, 'b', 5, 'on'), ('says', 12, 'b', 2, 3))
        self.fall = ('b',)
        self.lets(('says', 0, 'b', 2, 5), ('says', 0, 'b', 2, 0), ('says', 0, 'b', 3, 2))
        self.bars('says', ('says', 0, 'b', 2, 5), ('says', 0, 'c', 2, 0))


class Answers(Runs):
    told = (('promise', 0, 'b', 2), ('promise', 0, 'c', 2), ('says', 0, 'b', 2, 0), ('says', 0, 'c', 2, 0))
    begin = ('begin', 1, 'a', 0, 'lit')

    def test_all_of_the_lot(self):
        one, two = ('told', 1, 0, 'a', 0), ('told', 1, 0, 'b', 0)
        self.bars('answer', self.begin, ('answer', 1, 0, 0))
        self.bars('answer', self.begin, one, ('answer', 1, 0, 0))
        self.bars('answer', self.begin, two, ('answer', 1, 0, 0))
        self.lets(self.begin, two, one, ('answer', 1, 0, 0))
        self.bars('answer', self.begin, self.begin, one, ('told', 1, 1, 'b', 0), ('answer', 1, 0, 0))

    def test_all_with_a_promise(self):
        begin = ('begin', 1, 'a', 2, 'lit')
        self.lets(*self.told, begin, ('answer', 1, 4, 0))
        for k in (2, 3):
            self.bars('answer', *self.told[:k], *self.told[k + 1 :], begin, ('answer', 1, 3, 0))
        # They may tell behind the beginning, too; for another rule it does not count.
        self.lets(('begin', 0, 'a', 2, 'lit'), *self.told, ('answer', 0, 0, 0))
        self.bars('answer', *self.told, ('begin', 1, 'a', 3, 'lit'), ('answer', 1, 4, 0))

    def test_told_since_it_last_woke(self):
        sleep, begin = (('sleep', 1, 'a'), ('wake', 1, 'a')), ('begin', 1, 'a', 2, 'lit')
        again = tuple(('says', 1) + late[2:] for late in self.told[2:])
        self.bars('answer', *self.told, *sleep, begin, ('answer', 1, 6, 0))
        self.bars('answer', *self.told, *sleep, again[0], begin, ('answer', 1, 7, 0))
        self.lets(*self.told, *sleep, *again, begin, ('answer', 1, 8, 0))
        self.bars('answer', *self.told, sleep[0], *again, sleep[1], begin, ('answer', 1, 8, 0))
        self.lets(*self.told, *sleep, begin, *again, ('answer', 1, 6, 0))
        # That others slept does not matter.
        self.lets(*self.told, ('sleep', 1, 'b'), ('sleep', 1, 'c'), begin, ('answer', 1, 6, 0))

    def test_the_last_number_counts(self):
        begin, more = ('begin', 12, 'a', 3, 'lit'), (('promise', 0, 'b', 3), ('promise', 0, 'c', 3), ('says', 0, 'c', 3, 0), ('says', 0, 'b', 3, 0))
        self.setting = (2, 0, 0)
        self.lets(*more, begin, ('answer', 12, 4, 0))
        self.bars('answer', *more, ('vote', 11, 'b', 0, 'on'), ('says', 11, 'b', 3, 1), begin, ('answer', 12, 6, 0))
        self.lets(*more, ('vote', 11, 'b', 0, 'on'), begin, ('answer', 12, 5, 0))
        self.fall = ('b',)
        liar = (('says', 0, 'b', 3, 5), ('promise', 0, 'c', 3), ('says', 0, 'c', 3, 0))
        self.bars('answer', *liar, begin, ('answer', 12, 3, 0))
        self.lets(*liar, ('says', 3, 'b', 3, 0), begin, ('answer', 12, 4, 0))
        self.bars('answer', ('says', 0, 'b', 3, 0), *liar, begin, ('answer', 12, 4, 0))

    def test_not_less_than_each_number(self):
        votes = (('vote', 0, 'a', 0, 'on'), ('vote', 0, 'b', 0, 'on'))
        self.bars('answer', *votes, self.begin, ('told', 1, 2, 'a', 1), ('told', 1, 2, 'b', 1), ('answer', 1, 2, 0))
        self.lets(
            *votes, ('learn', 1, 'a', ('a', 'b'), 0, 'on'), self.begin, ('told', 1, 3, 'a', 1), ('told', 1, 3, 'b', 1), ('answer', 1, 3, 1),
        )
        self.bars(
            'answer', *votes, ('vote', 0, 'b', 5, 'on'), ('learn', 1, 'a', ('a', 'b'), 0, 'on'), self.begin, ('told', 1, 4, 'a', 1),
            ('told', 1, 4, 'b', 6), ('answer', 1, 4, 1),
        )
        # It may learn behind the beginning.
        self.lets(
            *votes, self.begin, ('told', 1, 2, 'a', 1), ('told', 1, 2, 'b', 1), ('learn', 1, 'a', ('a', 'b'), 0, 'on'), ('answer', 1, 2, 1),
        )

    def test_the_answer_of_its_state(self):
        begin = ('begin', 1, 'b', 1, 'lit')
        self.bars('answer', begin, ('told', 1, 0, 'c', 0), ('answer', 1, 0, 1))
        self.lets(begin, ('told', 1, 0, 'c', 0), ('answer', 1, 0, 0))
        more = VOTES[:2] + (('learn', 1, 'b', ('a', 'b'), 0, 'on'), begin, ('told', 1, 3, 'c', 0))
        self.lets(*more, ('answer', 1, 3, 1))
        self.bars('answer', *more, ('answer', 1, 3, 0))
        self.bars('answer', *more, ('answer', 1, 3, 7))

    def test_not_less_than_its_greatest_height(self):
        self.book = LIED
        begin, slept = ('begin', 2, 'a', 2, 'lit'), (('sleep', 1, 'a'), ('wake', 1, 'a'))
        self.lets(*VOTES, begin, ('answer', 2, 3, 1))
        self.bars('answer', *VOTES, *slept, begin, ('answer', 2, 5, 0))
        self.bars('answer', *VOTES, *slept, begin, ('answer', 2, 5, 1))
        self.lets(*VOTES, *slept, ('learn', 2, 'a', ('a', 'b'), 0, 'on'), begin, ('answer', 2, 6, 1))
        self.lets(('sleep', 1, 'a'), ('wake', 1, 'a'), begin, ('answer', 2, 2, 0))

    def test_counting(self):
        """By the rule 0 it has to learn two places, by the rule 1 one."""
        self.book = LIED
        begin = ('begin', 2, 'a', 2, 'lit')
        votes = tuple(('vote', 0, house, place, 'off') for house in ('a', 'b') for place in (3, 4, 5))
        learn = [('learn', 1, 'a', ('a', 'b'), place, 'off') for place in range(6)]
        wake = ('sleep', 1, 'a'), ('count', 1, 'a', 0, 3, 1)
        self.bars('answer', *votes, *wake, begin, ('answer', 2, 8, 1))
        self.bars('answer', *votes, *wake, learn[3], begin, ('answer', 2, 9, 0))
        self.bars('answer', *votes, *wake, learn[3], learn[5], begin, ('answer', 2, 10, 0))
        self.lets(*votes, *wake, learn[4], learn[3], begin, ('answer', 2, 10, 0))
        self.lets(*votes, wake[0], ('count', 1, 'a', 1, 3, 1), learn[3], begin, ('answer', 2, 9, 0))
        self.lets(*votes, wake[0], ('count', 1, 'a', 1, 3, 1), learn[3], learn[5], begin, ('answer', 2, 10, 0))
        # Once it slept again and wakes at the start, it has to be as high as it was.
        self.bars('answer', *votes, *wake, learn[4], learn[3], ('sleep', 2, 'a'), ('wake', 2, 'a'), begin, ('answer', 2, 12, 0))

    def test_till_the_end_by_its_own_clock(self):
        self.book = LIED
        for shift in (-3, 0, 4):
            self.setting = (shift, 99, -99)
            begin = ('begin', 0, 'a', 2, 'lit')
            self.lets(begin, ('answer', 9 + shift, 0, 0))
            self.bars('answer', begin, ('answer', 10 + shift, 0, 0))
            self.lets(('begin', 99, 'a', 0, 'lit'), ('told', 99, 0, 'a', 0), ('told', 99, 0, 'b', 0), ('answer', 10 ** 9, 0, 0))

    def test_without_anybody(self):
        """No lot and no promises: only its own height counts."""
        self.book = LIED
        self.lets(('vote', 0, 'a', 5, 'on'), ('begin', 1, 'a', 2, 'lit'), ('answer', 1, 1, 0))


class All(Case):
    def test_changed_in_one_place(self):
        told = set()
        for run in (LATE, LEASED, SLEPT):
            for thing in changes_of(run):
                told.add(self.judged(plainruns.lets_run(BOOK, thing), lets_run, BOOK, thing))
        self.assertGreaterEqual(told, {'let', 'shape', 'fall', 'setting', 'form', 'time', 'house', 'vote', 'learn', 'told', 'answer', 'says'})

    def test_each_event_that_was_drawn(self):
        """Against the slow plain way: each one that was tried behind a run, let or not."""
        for name, book in BOOKS.items():
            random = Random(61)
            tried = []
            for _ in range(4):
                drawn_run(random, book, 30, lambda run, word: tried.append((run, word)))
            told = Counter()
            for run, word in random.sample(tried, min(len(tried), 700)):
                told[self.judged([len(run[2])] if word is None else (word, len(run[2]) - 1), lets_run, book, run)] += 1
            self.assertGreater(min(told[word] for word in ('let', 'learn', 'answer', 'house')), 0, name)

    def test_beginnings(self):
        for book, run in drawn_runs(3):
            for k in range(len(run[2]) + 1):
                self.same(lets_run(book, run[:2] + (run[2][:k],)), k)

    def test_sixty_events_and_more(self):
        for name in ('dial', 'four'):
            run = drawn_run(Random(62), BOOKS[name], 160)
            self.assertGreater(len(run[2]), 100)
            self.same(lets_run(BOOKS[name], run), len(run[2]))

    def test_by_name(self):
        self.same(lets_run(thing=PLAIN, book=BOOK), 6)
