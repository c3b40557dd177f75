"""Points 5 to 7, 10 to 12, 74 to 77: whether a book is as one, and what is wrong with it."""

from random import Random

from actasone.oneness import run_is_one
from actasone.runchecker import lets_run
from actasone.whole import fault_run, faults_in, faults_of, first_fault, is_as_one, least_age
from tests import plain, plainruns, plainwhole
from tests.cases import Case
from tests.drawnbooks import SPAN, drawn_books
from tests.drawnruns import BOOKS, drawn_run
from tests.samples import (
    ALL, CALM, LAMP, LIT, LONE, MIXED, NEAR, ODD, PAST, ROUND, SOUND, THREE, TORN, TURN, WRONG, changes_of, full_trusts, large_machines, set_in,
    set_of, some_of,
)


def ages_of(book):
    return (0,) if book[4] else (0, 1, 2, 3)


class Faults(Case):
    def test_example(self):
        self.same(
            [is_as_one(SOUND), is_as_one(WRONG), faults_of(WRONG), first_fault(SOUND), is_as_one(WRONG, age=1), least_age(WRONG)],
            [True, False, (('looking', 0), ('looking', 1)), None, False, None],
        )
        self.same([len(faults_of(TORN)), len(faults_in(TORN, ('c',))), faults_in(TORN, ('b', 'c')), first_fault(TORN)[0]], [12, 4, (), 'odds'])

    def test_drawn(self):
        seen = set()
        for book in drawn_books(170, seed=110):
            for age in ages_of(book):
                wanted = plainwhole.faults(book, age, SPAN)
                self.same(faults_of(book, age=age), wanted)
                self.same(is_as_one(book, age=age), wanted == ())
                first = first_fault(book, age=age)
                sorts = [word for word in ('odds', 'looking', 'waking') if word in [fault[0] for fault in wanted]]
                if wanted:
                    self.assertIn(plain.told(first), [plain.told(fault) for fault in wanted])
                    self.assertEqual(first[0], sorts[0])
                else:
                    self.same(first, None)
                seen.add(tuple(sorts))
        self.assertGreaterEqual(len(seen), 6, seen)

    def test_all_sorts(self):
        """As Python sorts, looking stands ahead of odds; first are the odds even so."""
        faults = faults_of(ALL)
        self.same(faults, plainwhole.faults(ALL, 0, SPAN))
        self.assertEqual([fault[0] for fault in faults], ['looking'] + ['odds'] * 12 + ['waking'] * 1)
        self.same((faults[0], faults[-1]), (('looking', 0), ('waking', 1)))
        self.same(first_fault(ALL)[0], 'odds')
        self.same(first_fault(set_in(ALL, (1,), CALM)), ('looking', 0))
        self.same(first_fault(set_in(set_in(ALL, (1,), CALM), (3,), ALL[3][1:])), ('waking', 1))

    def test_in_one_fall(self):
        seen = set()
        for book in list(drawn_books(120, seed=111)) + [ALL, MIXED, BOOKS['torn'][:2] + (NEAR,) + BOOKS['torn'][3:]]:
            whole = []
            for fall in plain.all_falls(book[1]):
                wanted = plainwhole.faults_in(book, fall, SPAN)
                self.same(faults_in(book, fall), wanted)
                whole += wanted
                seen |= {(fault[0], fall != ()) for fault in wanted}
            self.same(faults_of(book), set_of(whole))
        self.assertEqual(len(seen), 6, seen)

    def test_runs_with_one_fall(self):
        """(W2): where nothing is wrong in a fall, all runs with it that were drawn are as one."""
        random, many = Random(112), 0
        for book in [book for book in drawn_books(90, seed=113) if book[3]]:
            run = drawn_run(random, book, 14)
            if plainwhole.faults_in(book, run[0], SPAN) == ():
                self.same(run_is_one(book, run), True)
                many += plainwhole.faults(book, 0, SPAN) != ()
        self.assertGreater(many, 5)

    def test_large(self):
        """Five houses with four lots and three fears each, six states, four letters, three looks."""
        for machine, trust in zip(large_machines(6, 114), full_trusts(6, 115)):
            book = (machine, trust, (('b', 'a', 2), ('c', 'a', 1)), (('a', machine[1], ('e',), 4, (('b', 6), ('c', 4))),) * 6, (('a', 8), ('b', 8)) * 2)
            rules = [k for k in range(6) if not plain.meets(plain.needs_of(trust, 'a'), self.caught(book)) and plainwhole.moves(book, 0, 0)]
            wanted = [('odds', one, other) for one, other in plain.all_odds(trust)] + [('looking', k) for k in rules]
            self.same([fault for fault in faults_of(book) if fault[0] != 'waking'], sorted(wanted))
            self.same(faults_of(book), set_of([fault for fall in plain.all_falls(trust) for fault in faults_in(book, fall)]))
            fault = first_fault(book)
            self.same(run_is_one(book, fault_run(book, fault)), False)

    def caught(self, book):
        return set('e') | {'b', 'c'}


class Ages(Case):
    def test_drawn(self):
        seen = {}
        for book in drawn_books(220, seed=116, waking=False):
            age = least_age(book)
            self.same(age, plainwhole.least_age(book, SPAN))
            seen[age] = seen.get(age, 0) + 1
            for late in range(4):
                self.same(is_as_one(book, age=late), age is not None and late >= age)
        self.assertGreaterEqual(set(seen), {None, 0, 1, 2}, seen)

    def test_the_greatest_of_all(self):
        asks = (('a', ('day',), (), 'any', ()), ('b', ('hour',), ('a', 'c'), 'any', ()), ('c', ('day', 'hour'), ('a',), 'any', ()))
        self.same(least_age((ROUND, CALM, (), asks, ())), 2)
        self.same(least_age((ROUND, CALM, (), asks[:2], ())), 0)
        self.same(least_age((ROUND, THREE, (), (), ())), None)
        self.same(least_age((ROUND, CALM, (), (), ())), 0)
        self.same(least_age((LAMP, CALM, (), asks[:0] + (('a', LIT, (), 'any', ()),), ())), None)

    def test_with_rules_of_waking(self):
        self.refused('book', least_age, SOUND)
        self.refused('book', least_age, set_in(SOUND, (4,), (('c', 8),)))
        self.same(least_age(set_in(SOUND, (4,), ())), 0)
        self.refused('book', least_age, SOUND[:4])
        for call, args in ((is_as_one, ()), (faults_of, ()), (first_fault, ()), (fault_run, (('waking', 0),))):
            for age in (1, 6, -1, True, None, '0', (0,)):
                self.refused('age', call, MIXED, *args, age=age)
            self.refused('book', call, MIXED[:4], *args, age=1)


class FaultRuns(Case):
    def shown(self, book, fault, age=0):
        run = fault_run(book, fault, age=age)
        self.same(lets_run(book, run), len(run[2]))
        self.same(run_is_one(book, run, age=age), False)
        answers = [run[2][event[2]] for event in run[2] if event[0] == 'answer']
        if fault[0] == 'odds':
            self.assertEqual(answers, [])
            self.assertTrue(plain.is_odds_fall(book[1], fault[1], fault[2], run[0]))
        elif fault[0] == 'looking':
            self.assertEqual([event[3] for event in answers], [fault[1]])
            self.assertIsNone(plainruns.clash(book, run))
        else:
            house = book[4][fault[1]][0]
            self.assertTrue(answers)
            self.assertEqual({event[2] for event in answers}, {house})
            self.assertIn((house, fault[1]), [event[2:4] for event in run[2] if event[0] == 'count'])

    def test_drawn(self):
        many = 0
        for book in drawn_books(90, seed=117):
            for age in ages_of(book):
                faults = plainwhole.faults(book, age, SPAN)
                for fault in faults:
                    self.shown(book, fault, age)
                    many += 1
                for fault in self.no_faults(book, faults):
                    self.refused('fault', fault_run, book, fault, age=age)
        self.assertGreater(many, 300)

    def no_faults(self, book, faults):
        rules = [('looking', k) for k in range(len(book[3]))] + [('waking', k) for k in range(len(book[4]))]
        pairs = plain.pairs_of(book[1])
        both = [('odds', one, other) for one in pairs for other in pairs if one <= other]
        return [fault for fault in rules + both if fault not in faults]

    def test_all_sorts(self):
        for fault in faults_of(ALL):
            self.shown(ALL, fault)

    def test_no_fault_by_form(self):
        """Ahead of the age; a fault that the book has not is refused behind it."""
        free = set_in(WRONG, (3,), WRONG[3] + SOUND[3])
        bad = ODD + [
            ('looking', 4), ('looking', -1), ('looking', True), ('waking', 0), ('looking',), ('looking', 0, 0), ('odds', ('a', 0), ('a', 3)),
            ('odds', ('b', 0), ('a', 0)), ('odds', ('a', 0)), ['looking', 0], ('odds', ('a', 0), ['b', 0]), ('odds', ('a', False), ('b', 0)), ('look', 0),
        ]
        for fault in bad:
            for age in (0, -1, None):
                self.refused('fault', fault_run, free, fault, age=age)
        for fault in (('looking', 2), ('looking', 3), ('odds', ('a', 0), ('a', 0)), ('odds', ('a', 1), ('c', 0))):
            for age in (-1, None, True):
                self.refused('age', fault_run, free, fault, age=age)
            for age in (0, 3):
                self.refused('fault', fault_run, free, fault, age=age)
        self.refused('age', fault_run, free, ('looking', 0), age=-1)
        self.refused('book', fault_run, None, None, age=-1)
        self.shown(free, ('looking', 0), 4)

    def test_faults_by_form(self):
        for fault in (('looking', 0), ('odds', ('a', 1), ('b', 2)), ('waking', 1)):
            for thing in changes_of(fault):
                if not plainwhole.is_fault(ALL, thing):
                    self.refused('fault', fault_run, ALL, thing, age=5)
                elif plain.told(thing) not in [plain.told(told) for told in plainwhole.faults(ALL, 0, SPAN)]:
                    self.refused('fault', fault_run, ALL, thing)

    def test_that_goes_with_an_age(self):
        book = (ROUND, CALM, (), (('b', ('hour',), ('c',), 'any', ()),), ())
        for age in (0, 1):
            self.shown(book, ('looking', 0), age)
        self.refused('fault', fault_run, book, ('looking', 0), age=2)


class Consequences(Case):
    def test_rule_by_rule(self):
        """As one exactly if it is so without rules, and with each rule of looking and at most one of waking."""
        for book in drawn_books(120, seed=118):
            parts = [book[:3] + ((), ())] + [book[:3] + ((rule,), ()) for rule in book[3]]
            parts += [book[:3] + ((rule,), (wake,)) for rule in book[3] for wake in book[4]]
            self.same(is_as_one(book), all([is_as_one(part) for part in parts]))

    def test_what_stays_as_one(self):
        random, many = Random(119), 0
        for book in drawn_books(220, seed=120):
            if not is_as_one(book):
                continue
            machine, trust, clocks, looking, waking = book
            houses = tuple(plain.houses_of(trust))
            for k, (house, looks, lot, end, promises) in enumerate(looking):
                self.same(is_as_one(set_in(book, (3,), looking[:k] + looking[k + 1 :])), True)
                self.same(is_as_one(set_in(book, (3, k, 2), set_of(lot + some_of(random, houses)))), True)
                if end != 'any':
                    untils = tuple((name, until + random.randint(0, 3)) for name, until in promises)
                    self.same(is_as_one(set_in(book, (3, k), (house, looks, lot, end - random.randint(0, 2), untils))), True)
            for k, (house, count) in enumerate(waking):
                self.same(is_as_one(set_in(book, (4,), waking[:k] + waking[k + 1 :])), True)
                self.same(is_as_one(set_in(book, (4, k), (house, count + random.randint(0, 2)))), True)
            if not waking:
                self.same(is_as_one(book, age=random.randint(1, 6)), True)
            many += len(looking) > 0
        self.assertGreater(many, 40)

    def test_lesser_gaps(self):
        for gap, wanted in ((0, True), (1, True), (2, True), (3, False)):
            clocks = tuple((one, other, gap) for one, other, _ in NEAR)
            self.same(is_as_one(set_in(SOUND, (2,), clocks)), wanted)
        self.same(is_as_one(set_in(SOUND, (2,), ())), False)

    def test_a_house_that_learns_twice(self):
        self.same(faults_of((LAMP, LONE, (), (), ())), (('odds', ('a', 0), ('a', 0)),))
        self.same([faults_in((LAMP, LONE, (), (), ()), fall) for fall in ((), ('b',), ('a',))], [(), (('odds', ('a', 0), ('a', 0)),), ()])

    def test_nobody_sees_it(self):
        """A rule of waking of a house without a rule of looking is right."""
        self.same(faults_of((TURN, CALM, NEAR, (('a', LIT, ('a', 'b'), 'any', ()),), (('b', 1), ('c', 3)))), ())
        self.same(faults_of((PAST, CALM, NEAR, (('a', ('new',), ('a', 'b'), 'any', ()),), (('a', 1),))), ())
        self.same(faults_of((PAST, CALM, NEAR, (('a', ('old',), ('a', 'b'), 'any', ()),), (('a', 1), ('a', 2)))), (('waking', 0),))

    def test_values_of_other_kinds(self):
        for fall in [value for value in ODD if not plain.is_fall(CALM, value)] + [('a', 'd'), ('b', 'a'), ['a']]:
            self.refused('fall', faults_in, SOUND, fall)
            self.refused('book', faults_in, SOUND[:4], fall)
