"""Points 42, 43: papers on trusts, and their checkers."""

from itertools import combinations
from random import Random

from actasone.trustchecker import lets_needs, lets_odds
from actasone.trustpapers import needs_paper, odds_paper
from tests import plain, plainpapers
from tests.cases import Case
from tests.samples import CALM, FOUR, LAMED, LONE, ODD, THREE, changes_of, full_trusts, set_in, trusts

ALONE = (('a', (('a',),), ((),)),)
TRUSTS = [THREE, CALM, FOUR, LONE, LAMED, ALONE] + list(trusts(60)) + list(full_trusts(6))
ODDS = ('odds', ('a', 1), ('b', 2), ('c',))
NEEDS = ((('a', 'b'), 'b', 0, ()), (('a', 'c'), 'b', 1, ()), (('b', 'c'), 'c', 2, ()))


class Odds(Case):
    def test_example(self):
        self.same([lets_odds(THREE, ODDS), lets_odds(FOUR, odds_paper(FOUR))], [True, False])
        self.wrong('calm', (('a', 0), ('a', 2)), lets_odds, THREE, ('calm',))

    def test_papers(self):
        for trust in TRUSTS:
            paper = odds_paper(trust)
            if plain.all_odds(trust):
                self.same(plainpapers.odds(trust, paper), [True])
                self.same(lets_odds(trust, paper), True)
                self.wrong('calm', plain.all_odds(trust)[0], lets_odds, trust, ('calm',))
            else:
                self.same(paper, ('calm',))
                self.same(lets_odds(trust, paper), False)

    def test_all_pairs_and_falls(self):
        for trust in TRUSTS[:30]:
            for one in plain.pairs_of(trust)[:4]:
                for other in plain.pairs_of(trust):
                    for fall in plain.all_falls(trust):
                        thing = ('odds', one, other, fall)
                        self.judged(plainpapers.odds(trust, thing), lets_odds, trust, thing)

    def test_either_order_and_one_pair_twice(self):
        self.same(lets_odds(THREE, ('odds', ('b', 2), ('a', 1), ('c',))), True)
        self.same(lets_odds(LONE, ('odds', ('a', 0), ('a', 0), ('b',))), True)
        self.same(lets_odds(LAMED, ('odds', ('b', 0), ('b', 0), ('a',))), True)

    def test_falls(self):
        for fall in ((), ('a',), ('b',), ('a', 'c'), ('c', 'c'), ['c'], ('d',), 'c', None, (['c'],), ('b', 'c'), ('a', 'b', 'c')):
            self.wrong('odds', -1, lets_odds, THREE, set_in(ODDS, (3,), fall))
        # A lesser fall than the greatest will do, if it holds all that is common.
        wide = set_in(set_in(CALM, (0, 2), (('b', 'c'),)), (0, 1), (('b',), ('b', 'c')))
        for fall, told in ((('b',), [True]), (('b', 'c'), [True]), (('c',), ('odds', -1)), ((), ('odds', -1))):
            self.judged(told, lets_odds, wide, ('odds', ('a', 0), ('a', 0), fall))

    def test_shapes(self):
        for thing in ODD + [
            ('odds',), ('calm', ()), ('Calm',), ['calm'], 'calm', ('odds', ('a', 1), ('b', 2)), ODDS + (None,), list(ODDS), ('calm',) * 4,
            ('odd',) + ODDS[1:], (('odds',),) + ODDS[1:], ('calm', None, None), (None,) + ODDS[1:], (['calm'],), ('calm', 'calm'),
        ]:
            self.wrong('shape', -1, lets_odds, THREE, thing)

    def test_changed_in_one_place(self):
        for trust in (THREE, CALM, LONE, LAMED):
            for paper in (ODDS, ('calm',), ('odds', ('a', 0), ('a', 0), ('b',))):
                for thing in changes_of(paper):
                    self.judged(plainpapers.odds(trust, thing), lets_odds, trust, thing)


class Needs(Case):
    def test_example(self):
        self.same(lets_needs(FOUR, 'a', needs_paper(FOUR, 'a')), 6)
        self.wrong('lacks', ('b', 1), lets_needs, CALM, 'a', ((('a', 'b'), 'b', 0, ()),))
        self.same(lets_needs(CALM, 'a', NEEDS), 3)

    def test_papers(self):
        for trust in TRUSTS:
            for house in plain.houses_of(trust):
                paper = needs_paper(trust, house)
                wanted = plain.needs_of(trust, house)
                self.same(tuple(part[0] for part in paper), wanted)
                self.same(plainpapers.needs(trust, house, paper), [len(wanted)])
                self.same(lets_needs(trust, house, paper), len(wanted))
        self.same(needs_paper(ALONE, 'a'), ())

    def test_parts_of_papers(self):
        for trust in TRUSTS:
            for house in plain.houses_of(trust):
                paper = needs_paper(trust, house)
                for many in range(min(len(paper), 3)):
                    for thing in list(combinations(paper, many))[:20]:
                        self.judged(plainpapers.needs(trust, house, thing), lets_needs, trust, house, thing)

    def test_drawn_papers(self):
        """Sets out of all quadruples that are right each for itself."""
        random = Random(6)
        told = set()
        for trust in TRUSTS:
            for house in plain.houses_of(trust):
                parts = [
                    (tuple(sorted(plain.lot_of(trust, pair) - set(fall))), pair[0], pair[1], fall)
                    for pair in plain.pairs_of(trust)
                    if pair[0] != house
                    for fall in plain.falls_of_both(trust, house, pair[0])
                ]
                for _ in range(6):
                    some = random.sample(parts, min(len(parts), random.randint(0, 4)))
                    thing = tuple(sorted(some) if random.random() < 0.8 else some)
                    told.add(self.judged(plainpapers.needs(trust, house, thing), lets_needs, trust, house, thing))
        self.assertEqual(told, {'let', 'need', 'least', 'lacks'})

    def test_needs(self):
        """What is no such quadruple, at the first place and behind others."""
        for wrong in (
            (('a', 'b'), 'a', 0, ()), (('a', 'b'), 'b', 3, ()), (('a', 'b'), 'b', True, ()), (('a', 'b'), 'b', 0, ('b',)),
            (('a', 'b'), 'b', 0, ('c',)), (('a',), 'b', 0, ('b',)), (('a',), 'b', 0, ()), (('a', 'b', 'c'), 'b', 0, ()), ['a', 'b'],
            (['a', 'b'], 'b', 0, ()), (('a', 'b'), 'b', 0, []), (('a', 'b'), ['b'], 0, ()), (('a', 'b'), 'b', 0), (('b', 'a'), 'b', 0, ()),
            (('a', 'b'), 'b', 1, ()), (('a', 'b'), 'b', 0, (), ()), [('a', 'b'), 'b', 0, ()], (('a', 'b'), 'b', -1, ()), None, (), 'abcd',
            (('a', 'c'), 'b', 1, 'b'), (('a', 'c'), 'b', '1', ()), (('a', 'c'), 'd', 1, ()), (('a', 'c'), 'b', False, ()),
        ):
            self.wrong('need', 0, lets_needs, CALM, 'a', (wrong,))
            self.wrong('need', 0, lets_needs, CALM, 'a', (wrong,) + NEEDS)
            self.wrong('need', 1, lets_needs, CALM, 'a', NEEDS[:1] + (wrong,))
            self.wrong('need', 3, lets_needs, CALM, 'a', NEEDS + (wrong, wrong))

    def test_order(self):
        self.wrong('need', 1, lets_needs, CALM, 'a', (NEEDS[1], NEEDS[0], NEEDS[2]))
        self.wrong('need', 2, lets_needs, CALM, 'a', (NEEDS[0], NEEDS[2], NEEDS[1]))
        self.wrong('need', 1, lets_needs, CALM, 'a', NEEDS[:1] + NEEDS)
        self.wrong('need', 1, lets_needs, CALM, 'a', NEEDS[:1] + ((('a', 'b'), 'c', 0, ()),) + NEEDS[1:])
        self.same(lets_needs(CALM, 'a', ((('a', 'b'), 'c', 0, ()),) + NEEDS[1:]), 3)

    def test_least(self):
        """In THREE lots without and with a fall."""
        one, whole, other = (('a',), 'b', 1, ('c',)), (('a', 'b'), 'b', 0, ()), (('b',), 'b', 2, ('c',))
        self.wrong('least', 1, lets_needs, THREE, 'a', (one, whole))
        self.wrong('least', 0, lets_needs, THREE, 'a', (whole, other))
        self.wrong('least', 1, lets_needs, THREE, 'a', (one, whole, other))
        self.wrong('lacks', ('c', 2), lets_needs, THREE, 'a', (one, other))

    def test_one_error_before_another(self):
        """Two at once: all needs are looked at ahead of the least ones, these ahead of what is lacking."""
        one, whole = (('a',), 'b', 1, ('c',)), (('a', 'b'), 'b', 0, ())
        self.wrong('need', 2, lets_needs, THREE, 'a', (one, whole, None))
        self.wrong('least', 1, lets_needs, THREE, 'a', (one, whole))
        self.wrong('lacks', ('b', 2), lets_needs, THREE, 'a', (one,))
        self.wrong('lacks', ('b', 0), lets_needs, THREE, 'a', ())
        self.wrong('lacks', ('a', 0), lets_needs, THREE, 'c', ())

    def test_no_tuple(self):
        for thing in (list(NEEDS), [], None, 'abc', 3, True, ''):
            self.wrong('shape', -1, lets_needs, CALM, 'a', thing)
        for thing in ODD:
            self.judged(plainpapers.needs(CALM, 'a', thing), lets_needs, CALM, 'a', thing)
            self.judged(plainpapers.needs(ALONE, 'a', thing), lets_needs, ALONE, 'a', thing)

    def test_changed_in_one_place(self):
        for trust, house, paper in ((CALM, 'a', NEEDS), (THREE, 'b', needs_paper(THREE, 'b')), (LAMED, 'b', needs_paper(LAMED, 'b'))):
            for thing in changes_of(paper):
                self.judged(plainpapers.needs(trust, house, thing), lets_needs, trust, house, thing)

    def test_an_empty_need(self):
        trust = (('a', (('a',),), (('b',),)), ('b', (('b',),), ((),)), ('c', (('b',),), (('b',),)))
        self.same(needs_paper(trust, 'a'), (((), 'c', 0, ('b',)),))
        self.same(lets_needs(trust, 'a', needs_paper(trust, 'a')), 1)
        self.wrong('lacks', ('c', 0), lets_needs, trust, 'a', ((('b',), 'b', 0, ()),))
        self.wrong('least', 1, lets_needs, trust, 'a', (((), 'c', 0, ('b',)), (('b',), 'b', 0, ())))
