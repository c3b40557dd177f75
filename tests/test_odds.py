"""Points 5, 12, 36, 37: lots at odds."""

from itertools import combinations
from random import Random

from actasone.kinds import is_trust
from actasone.odds import all_odds, least_dropped, odds_fall, without_pairs
from tests import plain
from tests.cases import Case
from tests.samples import CALM, FOUR, LONE, THREE, full_trusts, set_in, some_of, trusts

ALONE = (('a', (('a',),), ((),)),)
# Nobody is in a lot of both, and there is nobody to fear.
APART = (('a', (('a',),), ((),)), ('b', (('b',),), ((),)))
# The fears of a lie within one another, the greatest one first as Python sorts.
WITHIN = (
    ('a', (('a', 'b'), ('b', 'c')), ((), ('b',), ('b', 'c'), ('c',))),
    ('b', (('a', 'c'), ('b', 'c')), (('a',), ('a', 'c'))),
    ('c', (('a', 'b', 'c'),), ((),)),
)
TRUSTS = [THREE, CALM, FOUR, LONE, ALONE, APART, WITHIN] + list(trusts(60))
FEW = [trust for trust in TRUSTS + list(trusts(120, seed=8)) if len(plain.pairs_of(trust)) <= 10]


class OddsFall(Case):
    def test_example(self):
        self.same(
            [odds_fall(THREE, ('a', 1), ('b', 2)), odds_fall(THREE, ('a', 0), ('a', 2)), odds_fall(THREE, ('a', 0), ('b', 0)),
             len(all_odds(THREE))],
            [('c',), ('b',), None, 12],
        )

    def test_all_pairs(self):
        for trust in TRUSTS:
            odds = plain.all_odds(trust)
            for one in plain.pairs_of(trust):
                for other in plain.pairs_of(trust):
                    fall = odds_fall(trust, one, other)
                    self.assertEqual(fall is not None, (min(one, other), max(one, other)) in odds)
                    if fall is not None:
                        self.assertTrue(plain.is_fall(trust, fall))
                        self.assertTrue(plain.is_odds_fall(trust, one, other, fall))

    def test_itself(self):
        self.same([odds_fall(LONE, ('a', 0), ('a', 0)), odds_fall(LONE, ('b', 0), ('b', 0))], [('b',), None])
        for trust in TRUSTS:
            for house, lots, fears in trust:
                for k, lot in enumerate(lots):
                    within = any(set(lot) <= set(fear) for fear in fears)
                    self.assertEqual(odds_fall(trust, (house, k), (house, k)) is not None, within)

    def test_nobody_in_common(self):
        self.same([odds_fall(APART, ('a', 0), ('b', 0)), odds_fall(APART, ('b', 0), ('a', 0))], [(), ()])
        self.same(all_odds(APART), ((('a', 0), ('b', 0)),))
        self.same([all_odds(ALONE), odds_fall(ALONE, ('a', 0), ('a', 0))], [(), None])

    def test_a_fear_of_one_alone(self):
        """What only one of both houses fears is no fall in which both are safe."""
        trust = set_in(CALM, (0, 2), (('b',),))
        self.same(odds_fall(trust, ('a', 0), ('b', 2)), None)
        self.same(odds_fall(trust, ('a', 0), ('a', 2)), ('b',))
        self.same(odds_fall(set_in(trust, (2, 2), (('b',),)), ('a', 0), ('c', 2)), ('b',))

    def test_a_house_that_lies_is_none_of_both(self):
        self.same(odds_fall(THREE, ('b', 0), ('a', 1)), None)
        self.same(odds_fall(LONE, ('a', 0), ('b', 0)), None)

    def test_wrong_pairs(self):
        for wrong in (
            ('a', 3), ('a', -1), ('d', 0), ('a', True), ('a', False), ('a', '0'), ('a', None), ['a', 0], ('a',), ('a', 0, 0), (0, 'a'),
            ('A', 0), (['a'], 0), ('a', (0,)), ('a', [0]), None, (), 'a', 0, (None, None), ('a', 10 ** 60 - 1), (True, 0),
        ):
            self.refused('one', odds_fall, THREE, wrong, ('a', 0))
            self.refused('other', odds_fall, THREE, ('a', 0), wrong)
            self.refused('one', odds_fall, THREE, wrong, wrong)
            self.refused('trust', odds_fall, None, wrong, wrong)
        self.refused('one', odds_fall, LONE, ('b', 1), ('a', 1))
        self.refused('other', odds_fall, LONE, ('b', 0), ('a', 1))


class AllOdds(Case):
    def test_example(self):
        self.same([all_odds(CALM), all_odds(FOUR), all_odds(LONE)], [(), (), ((('a', 0), ('a', 0)),)])

    def test_all(self):
        for trust in TRUSTS:
            self.same(all_odds(trust), plain.all_odds(trust))

    def test_fewer_lots_lesser_fears_greater_lots(self):
        random = Random(4)
        for trust in TRUSTS:
            odds = {(self.told(trust, one), self.told(trust, other)) for one, other in all_odds(trust)}
            houses = plain.houses_of(trust)
            late = tuple((house, lots[random.randrange(len(lots)) :], fears) for house, lots, fears in trust)
            self.assertLessEqual({(self.told(late, one), self.told(late, other)) for one, other in all_odds(late)}, odds)
            late = tuple((house, lots, tuple(sorted({some_of(random, fear) for fear in fears}))) for house, lots, fears in trust)
            self.assertLessEqual(set(all_odds(late)), set(all_odds(trust)))
            late = tuple((house, (lots[0],), fears) for house, lots, fears in trust)
            more = tuple((house, (tuple(sorted(set(lots[0]) | set(some_of(random, houses)))),), fears) for house, lots, fears in late)
            self.assertLessEqual(set(all_odds(more)), set(all_odds(late)))

    def told(self, trust, pair):
        return pair[0], tuple(sorted(plain.lot_of(trust, pair)))

    def test_without_odds_each_two_lots_share_a_house(self):
        calm = [trust for trust in TRUSTS if all_odds(trust) == ()]
        self.assertGreater(len(calm), 5)
        for trust in calm:
            for one, other in combinations(plain.pairs_of(trust), 2):
                self.assertTrue(plain.lot_of(trust, one) & plain.lot_of(trust, other))


class WithoutPairs(Case):
    def test_example(self):
        self.same(without_pairs(THREE, (('a', 0), ('a', 2)))[0], ('a', (('a', 'c'),), (('b',), ('c',))))
        self.refused('pairs', without_pairs, LONE, (('a', 0),))

    def test_all_sets_of_pairs(self):
        for trust in FEW[:40]:
            pairs = plain.pairs_of(trust)
            for some in (some for many in range(min(len(pairs), 3) + 1) for some in combinations(pairs, many)):
                wanted = plain.without_pairs(trust, some)
                if wanted is None:
                    self.refused('pairs', without_pairs, trust, some)
                else:
                    self.same(without_pairs(trust, some), wanted)
                    self.assertTrue(is_trust(without_pairs(trust, some)))

    def test_no_lot_left(self):
        self.refused('pairs', without_pairs, THREE, (('a', 0), ('a', 1), ('a', 2)))
        self.refused('pairs', without_pairs, THREE, tuple(plain.pairs_of(THREE)))
        self.refused('pairs', without_pairs, ALONE, (('a', 0),))
        self.same(without_pairs(ALONE, ()), ALONE)

    def test_wrong_pairs(self):
        for wrong in (
            (('a', 2), ('a', 0)), (('b', 0), ('a', 0)), (('a', 0), ('a', 0)), [('a', 0)], (['a', 0],), (('a', 3),), (('a', True),),
            (('a', False),), (('d', 0),), ('a', 0), 'a', None, (('a', 0), None), (('a',),), (('a', 0, 0),), (('a', -1),), ((),), 0,
            (('a', 0), ('a', '1')), (('a', 0), (['a'], 1)), (('a', None), ('a', 0)),
        ):
            self.refused('pairs', without_pairs, THREE, wrong)
            self.refused('trust', without_pairs, None, wrong)


class LeastDropped(Case):
    def look_at(self, trust, fewest):
        dropped = least_dropped(trust)
        if fewest is None:
            self.same(dropped, None)
            return
        self.assertEqual(len(dropped), fewest)
        self.same(dropped, tuple(sorted(set(dropped))))
        self.assertTrue(all(plain.is_pair(trust, pair) for pair in dropped))
        self.same(all_odds(without_pairs(trust, dropped)), ())

    def test_example(self):
        self.same([least_dropped(FOUR), least_dropped(LONE), least_dropped(CALM), least_dropped(ALONE)], [(), None, (), ()])

    def test_all_sets_of_pairs(self):
        told = [plain.fewest_dropped(trust) for trust in FEW]
        self.assertGreater(told.count(None), 5)
        self.assertGreater(len(set(told)), 4)
        for trust, fewest in zip(FEW, told):
            self.look_at(trust, fewest)

    def test_a_house_that_would_have_no_lot(self):
        """One house is at odds with all others, but has a single lot: the others have to give way."""
        lots = (('a',), ('a', 'b', 'c'))
        trust = (('a', lots, ((),)), ('b', (('b',),), ((),)), ('c', lots, ((),)))
        self.look_at(trust, 2)
        self.same(least_dropped(trust), (('a', 0), ('c', 0)))
        self.look_at(APART, None)
        self.look_at((('a', (('a',), ('b',)), ((),)), ('b', (('b',),), ((),))), 1)

    def test_a_pair_at_odds_with_itself(self):
        trust = (('a', (('a',), ('b',)), (('b',),)), ('b', (('a', 'b'),), ((),)))
        self.same(least_dropped(trust), (('a', 1),))

    def test_large_trusts(self):
        """Five houses, four lots and three fears for each; by pairs alone, not by sets of them."""
        many = 0
        for trust in full_trusts(40):
            dropped = least_dropped(trust)
            if dropped is not None:
                many += 1
                odds = all_odds(trust)
                self.assertTrue(all(one in dropped or other in dropped for one, other in odds))
                self.look_at(trust, self.fewest_by_houses(trust, odds))
        self.assertGreater(many, 5)

    def fewest_by_houses(self, trust, odds):
        """Over what each house keeps, one house after the other; sets of pairs as bits."""
        pairs = plain.pairs_of(trust)
        barred = {one: sum(1 << k for k, two in enumerate(pairs) if (one, two) in odds or (two, one) in odds) for one in pairs}
        kept = [(0, 0)]
        for house, lots, _ in trust:
            own = [(k, pair) for k, pair in enumerate(pairs) if pair[0] == house]
            some = [part for many in range(1, len(own) + 1) for part in combinations(own, many)]
            late = []
            for part in some:
                bits = sum(1 << k for k, _ in part)
                bar = 0
                for _, pair in part:
                    bar |= barred[pair]
                late += [(all_bits | bits, all_bars | bar) for all_bits, all_bars in kept if not (all_bits | bits) & (all_bars | bar)]
            kept = list(set(late))
        return len(pairs) - max(bin(bits).count('1') for bits, _ in kept)
