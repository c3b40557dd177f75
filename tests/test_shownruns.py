"""Points 8, 69, 70: runs that show what is wrong."""

from random import Random

from actasone.oneness import run_is_one
from actasone.runchecker import lets_run
from actasone.shownruns import run_of_odds, run_of_rule, run_of_waking
from tests import plain, plainruns, plainwhole
from tests.cases import Case
from tests.drawnbooks import SPAN, drawn_books
from tests.samples import (
    MIXED, BOOK, CALM, DIAL, FOUR, LAMP, LIT, LONE, NEAR, PAST, ROUND, SPARE, THREE, TURN, WIDE, full_trusts, large_machines, set_in, trusts,
)

FIVE = ('a', 'b', 'c', 'd', 'e')


class Shown(Case):
    def shows(self, book, run, age=0):
        """The run is one of the book, and not as one; told slowly too, where that does not take long."""
        self.assertEqual(len(run), 3)
        self.same(lets_run(book, run), len(run[2]))
        self.same(run_is_one(book, run, age=age), False)
        if len(run[2]) < 45 and len(book[0][0]) ** plainruns.length(book, run) < 600:
            self.same(plainruns.lets_run(book, run), [len(run[2])])
            self.assertEqual(plainruns.rows_of_run(book, run, age), [])

    def rule_shown(self, book, rule, age=0):
        run = run_of_rule(book, rule, age=age)
        self.shows(book, run, age)
        answers = [event for event in run[2] if event[0] == 'answer']
        self.assertEqual(len(answers), 1)
        self.assertEqual({event[3] for event in run[2] if event[0] == 'begin'}, {rule})
        safe = [house for house in plain.houses_of(book[1]) if plain.is_safe(book[1], house, run[0])]
        self.assertIn(book[3][rule][0], safe)
        self.assertIsNone(plainruns.clash(book, run))
        return run

    def waking_shown(self, book, waking):
        house = book[4][waking][0]
        run = run_of_waking(book, waking)
        self.shows(book, run)
        woken = [event for event in run[2] if event[0] in ('wake', 'count')]
        self.assertEqual([event[2:4] for event in woken], [(house, waking)])
        self.assertEqual({event[2] for event in run[2] if event[0] == 'begin'}, {house})
        self.assertTrue(any(event[0] == 'answer' for event in run[2]))
        self.assertTrue(plain.is_safe(book[1], house, run[0]))
        return run

    def odds_shown(self, book, one, other):
        run = run_of_odds(book, one, other)
        self.shows(book, run)
        self.assertEqual({event[0] for event in run[2]} & {'begin', 'told', 'answer'}, set())
        self.assertTrue(plain.is_odds_fall(book[1], one, other, run[0]))
        learned = [event for event in run[2] if event[0] == 'learn']
        by = {
            (event[2], event[3], event[4], event[5])
            for event in learned
        }
        first, second = (dict((house, lots) for house, lots, _ in book[1])[pair[0]][pair[1]] for pair in (one, other))
        self.assertTrue(any(
            (one[0], first, place, letter) in by and (other[0], second, place, late) in by
            for _, _, place, letter in by for _, _, _, late in by if letter != late
        ))
        return run


class Rules(Shown):
    def test_example(self):
        self.same(lets_run(BOOK, run_of_rule(BOOK, 1)), len(run_of_rule(BOOK, 1)[2]))
        self.same(run_is_one(BOOK, run_of_rule(BOOK, 1)), False)
        self.rule_shown(BOOK, 1)
        self.rule_shown(BOOK, 3)
        self.same([run_of_rule(BOOK, 0), run_of_rule(BOOK, 2)], [None, None])

    def test_drawn(self):
        seen = {True: 0, False: 0}
        for book in drawn_books(120, seed=90):
            for rule in range(len(book[3])):
                for age in (0,) if book[4] else (0, 1, 3):
                    right = plainwhole.lacks(book, rule, age, SPAN) == ()
                    seen[right] += 1
                    if right:
                        self.same(run_of_rule(book, rule, age=age), None)
                    else:
                        self.rule_shown(book, rule, age)
        self.assertGreater(min(seen.values()), 60)

    def test_a_promise_that_just_does_not_last(self):
        """It is over just as long before the end that the letters can be voted and learned."""
        for clocks, until in ((NEAR, 11), (NEAR, -999999), ((), 11), ((), 999999), ((('a', 'b', 3),), 999999), ((('a', 'b', 7), ('b', 'a', -7)), 2)):
            for owner, promises in (('a', (('b', until),)), ('a', (('a', 9), ('b', until))), ('a', (('b', until), ('c', -5)))):
                book = (LAMP, CALM, clocks, ((owner, LIT, (), 10, promises),), ())
                self.rule_shown(book, 0)

    def test_its_own_promise_that_does_not_last(self):
        """The house of the rule is one of those that vote; it has not learned what it votes."""
        trust = (('a', (('a', 'b'),), ((),)), ('b', (('a',),), ((),)))
        for until in (4, 0, -3):
            self.rule_shown((LAMP, trust, (), (('a', LIT, ('b',), 5, (('a', until),)),), ()), 0)

    def test_what_lies(self):
        """Those of the lot that lie, and those with a promise."""
        trust = (('a', (('a', 'b', 'c'),), (('b',), ('c',))), ('b', (('b', 'c'),), (('c',),)), ('c', (('c',),), ((),)))
        for lot, promises in ((('c',), ()), (('a', 'c'), (('c', 99),)), ((), (('b', 3), ('c', 99)))):
            for end in (5, 'any') if promises == () else (5,):
                self.rule_shown((DIAL, trust, NEAR, (('a', ('low',), lot, end, promises),), ()), 0)

    def test_states_behind_the_start(self):
        """A look that moves behind some letters only, so that all have to learn these first."""
        far = (('go', 'stay'), LIT, ((1, 0), (2, 1), (3, 2), (3, 3)), ((0,), (0,), (0,), (1,)))
        run = self.rule_shown((far, FOUR, (), (('d', LIT, ('a',), 'any', ()),), ()), 0)
        self.assertGreater(len(run[2]), 6)
        gone = (('go', 'stay'), LIT, ((1, 0), (2, 2), (1, 1)), ((5,), (5,), (7,)))
        for age in (0, 1, 4):
            book = (gone, CALM, NEAR, (('b', LIT, (), 3, (('a', 3),)),), ())
            if plainwhole.lacks(book, 0, age, SPAN):
                self.rule_shown(book, 0, age)
            else:
                self.same(run_of_rule(book, 0, age=age), None)

    def test_ages(self):
        for age, right in ((0, False), (1, False), (2, True), (6, True)):
            book = (ROUND, CALM, NEAR, (('b', ('day', 'hour'), ('c',), 'any', ()),), ())
            if right:
                self.same(run_of_rule(book, 0, age=age), None)
            else:
                self.rule_shown(book, 0, age)
        for age in (0, 5, 6):
            self.rule_shown(BOOK[:4] + ((),), 1, age)

    def test_large(self):
        """Five houses with four lots and three fears each, six states, four letters, three looks."""
        random, many = Random(91), 0
        for machine, trust in zip(large_machines(8), full_trusts(8)):
            end = random.randint(-9, 9)
            promises = tuple((house, end + random.randint(-5, 5)) for house in FIVE[1:4])
            book = (machine, trust, (('b', 'a', 2), ('c', 'a', 1)), (('a', machine[1], ('e',), end, promises), ('c', machine[1][:1], (), 'any', ())), ())
            for rule in (0, 1):
                for age in (0, 6):
                    run = run_of_rule(book, rule, age=age)
                    if run is not None:
                        self.rule_shown(book, rule, age)
                        many += 1
        self.assertGreater(many, 10)


class Waking(Shown):
    def test_example(self):
        self.same([run_is_one(MIXED, run_of_waking(MIXED, 0)), run_of_waking(BOOK, 0), run_of_waking(MIXED, 1)], [False, None, None])
        self.waking_shown(MIXED, 0)

    def test_drawn(self):
        seen = {True: 0, False: 0}
        for book in drawn_books(220, seed=92, waking=True, most=4):
            for waking in range(len(book[4])):
                right = plainwhole.is_waking_right(book, waking)
                seen[right] += 1
                if right:
                    self.same(run_of_waking(book, waking), None)
                else:
                    self.waking_shown(book, waking)
        self.assertGreater(min(seen.values()), 20)

    def test_rules_with_lots_and_promises(self):
        """By some rule of the house with the look: all that it asks has to be told behind the waking."""
        asks = (
            ('b', ('lit',), (), 'any', ()), ('a', ('lit',), ('a', 'b', 'c'), -7, (('a', 3), ('b', -20), ('c', 999))), ('a', ('lit',), (), 'any', ()),
        )
        for machine in (TURN, SPARE):
            self.waking_shown((machine, CALM, NEAR, asks, (('a', 3),)), 0)
            self.waking_shown((machine, THREE, (), asks[:2], (('b', 1), ('a', 8))), 1)
        self.waking_shown((PAST, FOUR, NEAR, (('a', ('new',), (), 'any', ()), ('a', ('old',), ('d',), 4, (('b', 1),))), (('a', 1),)), 0)

    def test_states_that_are_not_reached(self):
        apart = (('go', 'stay'), LIT, ((0, 0), (1, 1)), ((0,), (1,)))
        self.waking_shown((apart, CALM, (), (('a', LIT, (), 'any', ()),), (('a', 2),)), 0)

    def test_states_that_are_told_apart_later(self):
        """Only behind more letters than the many."""
        late = (('go', 'stay'), LIT, ((1, 0), (0, 1), (3, 2), (4, 3), (2, 4)), ((0,), (0,), (0,), (0,), (1,)))
        run = self.waking_shown((late, CALM, (), (('b', LIT, ('c',), 'any', ()),), (('b', 1),)), 0)
        self.assertGreater(plainruns.length((late, CALM, (), (('b', LIT, ('c',), 'any', ()),), (('b', 1),)), run), 1)

    def test_large(self):
        for machine in large_machines(6):
            book = (machine, tuple(full_trusts(1))[0], (), (('c', machine[1], ('a', 'e'), 3, (('b', 4),)),), (('c', 8), ('c', 1)))
            for waking in (0, 1):
                if run_of_waking(book, waking) is not None:
                    self.waking_shown(book, waking)


class Odds(Shown):
    def test_example(self):
        torn = (LAMP, THREE, NEAR, (), ())
        self.same(self.odds_shown(torn, ('a', 1), ('b', 2))[0], ('c',))
        self.same(run_of_odds(BOOK, ('a', 0), ('b', 0)), None)

    def test_all_pairs(self):
        """In either order, and with itself."""
        many = 0
        for k, trust in enumerate(trusts(30)):
            book = ((LAMP, TURN, WIDE)[k % 3], trust, (), (), ())
            pairs = plain.pairs_of(trust)
            for one in pairs[:6]:
                for other in pairs[-6:] + [one]:
                    if any(plain.is_odds_fall(trust, one, other, fall) for fall in plain.all_falls(trust)):
                        self.odds_shown(book, one, other)
                        many += 1
                    else:
                        self.same(run_of_odds(book, one, other), None)
        self.assertGreater(many, 100)

    def test_a_house_with_itself(self):
        """It learns, sleeps, and learns another letter there."""
        book = (LAMP, LONE, (('a', 'b', -4),), (), (('b', 2),))
        run = self.odds_shown(book, ('a', 0), ('a', 0))
        self.assertEqual([event[0] for event in run[2]], ['learn', 'sleep', 'wake', 'learn'])
        three = (LAMP, THREE, NEAR, (), ())
        self.odds_shown(three, ('a', 0), ('a', 2))
        self.same(run_of_odds(three, ('a', 0), ('a', 0)), None)

    def test_clocks_that_are_bound(self):
        for clocks in (NEAR, set_in(NEAR, (1, 2), -1)[1:2], (('a', 'b', -999999), ('c', 'b', 5))):
            self.odds_shown((TURN, THREE, clocks, (), ()), ('a', 1), ('b', 2))
