"""Points 4, 5, 38, 39, 40: what a house has to ask."""

from random import Random

from actasone.needs import fewest_lot, first_missed, least_lots, meets_needs, needs_of
from actasone.odds import all_odds
from tests import plain
from tests.cases import Case
from tests.samples import CALM, FOUR, LAMED, LONE, THREE, TRIOS, full_trusts, some_of, trusts

ALONE = (('a', (('a',),), ((),)),)
APART = (('a', (('a',),), ((),)), ('b', (('b',),), ((),)))
# The fears of b lie within one another; in the greatest one a is not safe.
WITHIN = (
    ('a', (('a', 'b'),), (('b', 'c'), ('c',))),
    ('b', (('a', 'c'), ('b', 'c')), ((), ('a',), ('a', 'c'), ('c',))),
    ('c', (('a', 'b', 'c'),), ((),)),
)
TRUSTS = [THREE, CALM, FOUR, LONE, ALONE, APART, WITHIN, LAMED] + list(trusts(60)) + list(full_trusts(8))


class NeedsOf(Case):
    def test_example(self):
        self.same([needs_of(CALM, 'a'), needs_of(THREE, 'a')], [(('a', 'b'), ('a', 'c'), ('b', 'c')), (('a',), ('b',), ('c',))])
        self.same([needs_of(LAMED, 'a'), needs_of(LAMED, 'b'), needs_of(ALONE, 'a')], [(('a',),), (('b',),), ()])
        self.same(len(needs_of(FOUR, 'a')), 6)

    def test_all_falls(self):
        for trust in TRUSTS:
            for house in plain.houses_of(trust):
                self.same(needs_of(trust, house), plain.needs_of(trust, house))

    def test_own_lots_are_no_needs(self):
        trust = (('a', (('a',), ('b',), ('c',)), ((),)), ('b', (('a', 'b', 'c'),), ((),)), ('c', (('a', 'b'),), ((),)))
        self.same(needs_of(trust, 'a'), (('a', 'b'),))
        self.same(needs_of(trust, 'c'), (('a',), ('b',), ('c',)))

    def test_only_falls_in_which_both_are_safe(self):
        self.same(needs_of(WITHIN, 'a'), (('a',), ('b',)))
        self.same(needs_of(WITHIN, 'b'), (('a', 'b'),))
        self.same(needs_of(WITHIN, 'c'), (('a', 'b'), ('a', 'c'), ('b', 'c')))

    def test_an_empty_need_is_the_only_one(self):
        trust = (('a', (('a',),), (('b',), ('c',))), ('b', (('a', 'b'), ('c',)), (('c',),)), ('c', (('b', 'c'),), ((),)))
        self.same(needs_of(trust, 'a'), ((),))
        self.same([meets_needs(trust, 'a', ('a', 'b', 'c')), first_missed(trust, 'a', ('a', 'b', 'c'))], [False, ()])
        self.same([least_lots(trust, 'a'), fewest_lot(trust, 'a')], [(), None])


class MeetsNeeds(Case):
    def test_example(self):
        self.same([meets_needs(FOUR, 'a', ('b', 'd')), first_missed(FOUR, 'a', ('b', 'd'))], [False, ('a', 'c')])

    def test_all_lots(self):
        for trust in TRUSTS:
            for house in plain.houses_of(trust):
                needs = plain.needs_of(trust, house)
                for lot in plain.all_falls(trust):
                    missed = [part for part in needs if not set(part) & set(lot)]
                    self.same(meets_needs(trust, house, lot), missed == [])
                    self.same(first_missed(trust, house, lot), missed[0] if missed else None)
                    self.same(meets_needs(trust, house, lot), plain.meets(plain.all_needed(trust, house), lot))

    def test_no_lot(self):
        self.same([meets_needs(ALONE, 'a', ()), first_missed(ALONE, 'a', ())], [True, None])
        self.same([meets_needs(CALM, 'a', ()), first_missed(CALM, 'a', ())], [False, ('a', 'b')])

    def test_the_least_need_as_python_sorts(self):
        self.same(first_missed(CALM, 'a', ('a',)), ('b', 'c'))
        self.same(first_missed(THREE, 'b', ('a',)), ('b',))
        self.same([first_missed(WITHIN, 'c', ('a',)), first_missed(WITHIN, 'c', ('b',))], [('b', 'c'), ('a', 'c')])


class LeastLots(Case):
    def test_example(self):
        self.same([least_lots(CALM, 'a'), least_lots(THREE, 'a')], [(('a', 'b'), ('a', 'c'), ('b', 'c')), (('a', 'b', 'c'),)])
        self.same([least_lots(FOUR, 'a'), least_lots(LAMED, 'a'), least_lots(ALONE, 'a')], [TRIOS, (('a',),), ((),)])

    def test_all_sets_of_houses(self):
        for trust in TRUSTS:
            for house in plain.houses_of(trust):
                self.same(least_lots(trust, house), plain.least_lots(trust, house))

    def test_fewest(self):
        told = set()
        for trust in TRUSTS:
            for house in plain.houses_of(trust):
                lots, fewest = plain.least_lots(trust, house), fewest_lot(trust, house)
                if lots == ():
                    self.same(fewest, None)
                else:
                    self.assertIs(type(fewest), tuple)
                    self.assertIn(fewest, lots)
                    self.assertEqual(len(fewest), min(map(len, lots)))
                told.add(None if fewest is None else len(fewest))
        self.assertGreaterEqual(told, {None, 0, 1, 2, 3})


class Consequences(Case):
    def test_no_empty_need_without_odds(self):
        for trust in TRUSTS:
            if all_odds(trust) == ():
                for house in plain.houses_of(trust):
                    self.assertNotIn((), needs_of(trust, house))

    def test_least_lots_of_none_and_of_nobody(self):
        for trust in TRUSTS:
            for house in plain.houses_of(trust):
                needs, lots = needs_of(trust, house), least_lots(trust, house)
                self.assertEqual(lots == (), () in needs)
                self.assertEqual(lots == ((),), needs == ())
                for lot in plain.all_falls(trust):
                    if meets_needs(trust, house, lot):
                        self.assertTrue(any(set(least) <= set(lot) for least in lots))
                self.assertTrue(all(set(part) & set(lot) for part in needs for lot in lots))

    def test_fewer_lots_of_others_and_lesser_fears(self):
        random = Random(5)
        for trust in TRUSTS:
            for house in plain.houses_of(trust)[:2]:
                fewer = tuple(
                    (name, lots if name == house else lots[random.randrange(len(lots)) :], tuple(sorted({some_of(random, fear) for fear in fears})))
                    for name, lots, fears in trust
                )
                for lot in plain.all_falls(trust):
                    if meets_needs(trust, house, lot):
                        self.assertTrue(meets_needs(fewer, house, lot))

    def test_lots_that_meet_their_needs(self):
        """Exactly if no pairs of two different houses are at odds."""
        for trust in TRUSTS:
            odds = [both for both in all_odds(trust) if both[0][0] != both[1][0]]
            meeting = all(meets_needs(trust, house, lot) for house, lots, _ in trust for lot in lots)
            self.assertEqual(meeting, odds == [])
            if odds == []:
                for one, other in ((one, other) for one in plain.pairs_of(trust) for other in plain.pairs_of(trust) if one[0] != other[0]):
                    for fall in plain.falls_of_both(trust, one[0], other[0]):
                        self.assertTrue((plain.lot_of(trust, one) & plain.lot_of(trust, other)) - set(fall))
